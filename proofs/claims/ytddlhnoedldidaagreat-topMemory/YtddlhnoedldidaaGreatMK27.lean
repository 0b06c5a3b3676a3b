/- Parts of the proof. -/
import Derived.Test.YtddlhnoedldidaaGreatML
import Derived.Test.YtddlhnoedldidaaGreatMK5
import Derived.Test.YtddlhnoedldidaaGreatMK29
set_option maxRecDepth 100000
set_option maxHeartbeats 16000000
namespace Go.Proofs.YtddlhnoedldidaaGreat
open Go.Proofs.Tryz
open Value renaming int->J,slice->J1,pointer->J2,bool->J3,agg->J4
open IntKind renaming i64->I
open Obj renaming cells->J5
namespace Pv
open Go.RowKit Wd
theorem _root_.Go.Proofs.YtddlhnoedldidaaGreat.z2d.hei{B:Nat}{w:World}{g C:Nat}{W:List Wt}(h:z2d B w (some ⟨g,0,none⟩) C W){k:Nat}{x:Wt}(a:W[k]?=some x):w.cell? ⟨g,k * 8+4,none⟩=some (J I x.hei):=by
 have:=World.ownsRow.cells h (g:=g) rfl (k * 8+4) (J I x.hei) (z4h W k x 4 a (by omega))
 rwa [Addr.add_lit,Nat.zero_add]at this
theorem Alt.far{g a:Nat}{w w':World}(h:Alt g w w')(d:w.heap.size<=a)(o:Nat)(v:Value):Alt g w (w'.setCell ⟨a,o,none⟩ v):=
 ⟨h.os,h.tape,h.output,(by simp[World.setCell];exact h.size),fun k b c=>(Below.heap_setCell _ _ _ _ (show k≠a by omega)).trans (h.block k b c)⟩
structure HRl(p:Pr)(v:PrV)(F:Wt->Wt)(w:World)(g:Nat)(A:Option Addr)(C k:Nat)(wl:World):Prop where
 own:z2d w.heap.size wl A C ((p.s.W.take k).map F ++ p.s.W.drop k)
 S:CAt 58 wl g (prC p { v with ws:=J1 A p.s.W.length C })
 alt:Alt g w wl
theorem q2T(f:Wt->Bool){W:List Wt}{k:Nat}{x:Wt}(h:W[k]?=some x):(W.take (k+1)).any f=((W.take k).any f || f x):=by
 rw[z1m h,List.any_append]
 simp
theorem q3q(p:Pr)(v:PrV)(u:Value):(prC p v).setIfInBounds 63 u=prC p { v with ws:=u }:=rfl
theorem j3d(g:Nat)(p:Pr)(v:PrV)(P:Nat->Prop)(w:World)(n:CAt 58 w g (prC p v))(hp:Rep P w v.ws 8 64 (wsL p.s.W))(h0:0<=p.h)(h1:p.h<=1099511627776) :
  Calls prog 82 #[J2 (some ⟨g,0,none⟩),J I 0] w fun e w'=>∃ A C,e=.returned (J3 (p.s.W.any (fun x=>decide (x.hei=p.h+1))))/\CAt 58 w' g (prC p { v with ws:=J1 A p.s.W.length C })/\z2d w.heap.size w' A C (p.s.W.map (z1A 0 (p.h+1)))/\Alt g w w':=by
 obtain⟨ao,c,sb,so,r,Q,-,-⟩:=hp.z9Z;have Y:=Q.len;have t:=J6 (z7H g p v w n h0 h1);have u:=z2T ao p.s.W c sb so w Q;have o:w.cell? ⟨g,63,none⟩=some (J1 ao p.s.W.length c):=by rw[<- r];exact n.cell 63
 have f:=n.free 63;have a0:=n.lt;have Z:=J6 n;clear n hp Q r;generalize R:p.h+1=hh at *;clear R
 go_enter func82,ntmps82
 go_upto_region 3 with (first
  | (go_at_call 70;refine t.out.mono ?_;rintro e w'⟨rfl,rfl⟩)
  | (go_at_call 38;refine u.mono ?_;rintro e w1⟨A,C,rfl,q,j⟩;have y:=Z.out.over j;have a1:=y.lt;clear o;have o:w1.cell? ⟨g,63,none⟩=some v.ws:=y.cell 63;clear f;have f:=y.free 63;have l:=J6 q;have z:=J6 j;clear j q))
 have B:=y.set 63 (J1 A p.s.W.length C);rw[q3q]at B;have b:=(But.refl g w1).set 63 (J1 A p.s.W.length C);have A2:Alt g w (w1.setCell ⟨g,63,none⟩ (J1 A p.s.W.length C)):=(Alt.of (g:=g) z.out).set 63 _;have D:Hid (z2d w.heap.size (w1.setCell ⟨g,63,none⟩ (J1 A p.s.W.length C)) A C p.s.W):=z1c l.out fun k hk=>b.block _ (by have:=(World.ownsRow.lt l.out k hk).1;omega)
 generalize w1.setCell ⟨g,63,none⟩ (J1 A p.s.W.length C)=w2 at *;clear o f y l z b u t Z;have o:w2.cell? ⟨g,63,none⟩=some (J1 A p.s.W.length C):=B.cell 63;have a2:g<w2.heap.size:=B.lt;have E:Hid (HRl p v (z1A 0 hh) w g A C 0 w2):=⟨D.out,B,A2⟩;clear B D A2
 go_upto_region 4 with fail
 go_loopw [27,6] (fun i fo wl=>∃ (k:Nat),k<=p.s.W.length/\i=J I (k:Int)/\fo=J3 ((p.s.W.take k).any (fun x=>decide (x.hei=hh)))/\Hid (HRl p v (z1A 0 hh) w g A C k wl)) (fun i _ _=>p.s.W.length - (intOf i).toNat)
 case atStart=>exact⟨0,Nat.zero_le _,rfl,rfl,E⟩
 case round =>
  obtain⟨k,hk,rfl,rfl,a⟩:=hrel;clear E o;have a3:=a.out.S.lt;have o:wr.cell? ⟨g,63,none⟩=some (J1 A p.s.W.length C):=a.out.S.cell 63
  by_cases F:k<p.s.W.length
  ·obtain⟨x,T,_⟩:=drop_at F;obtain⟨e1,M,e3⟩:=z6K (z1A 0 hh) T;obtain⟨N,rfl,a4,a5,G⟩:=a.out.own.holds (by omega)
   obtain⟨c6,c7,f6,f7⟩:=G k x M;have c4:=a.out.own.hei M;have H:=a.out.own.cap;rw[e3]at H;have K:=J6 e1;have L:=J6 M;have ha:=q2T (fun x=>decide (x.hei=hh)) T;have HA:=J6 ha;generalize (p.s.W.take k).any (fun x=>decide (x.hei=hh))=bk at *;clear G e1 M T ha
   by_cases d:x.hei=hh
   ·have U:Hid (z1A 0 hh x={ x with h0:=hh }):=by show _=_;unfold z1A;simp[d]
    have m:Hid ((p.s.W.take (k+1)).any (fun x=>decide (x.hei=hh))=true):=by show _=_;rw[HA.out];simp[d]
    have HN:Hid (HRl p v (z1A 0 hh) w g (some ⟨N,0,none⟩) C (k+1) (wr.setCell ⟨N,k * 8+6,none⟩ (J I hh))):=by
     have b:=(But.refl N wr).set (k * 8+6) (J I hh);exact⟨by rw[K.out,U.out];exact a.out.own.put L.out _ 6 _ (by omega) rfl,(b.block g (by have:=a.out.alt.size;omega)).trans a.out.S,a.out.alt.far (by omega) _ _⟩
    go_wp2;exact⟨⟨k+1,by omega,by go_num,by rw[m.out],HN⟩,by simp[intOf];omega⟩
   ·have U:Hid (z1A 0 hh x=x):=by show _=_;unfold z1A;simp[d]
    have m:Hid ((p.s.W.take (k+1)).any (fun x=>decide (x.hei=hh))=bk):=by show _=_;rw[HA.out];simp[d]
    have V:Hid (HRl p v (z1A 0 hh) w g (some ⟨N,0,none⟩) C (k+1) wr):=⟨by rw[K.out,U.out,z5u L.out];exact a.out.own,a.out.S,a.out.alt⟩
    go_wp2;exact⟨⟨k+1,by omega,by go_num,by rw[m.out],V⟩,by simp[intOf];omega⟩
  ·obtain rfl:k=p.s.W.length:=by omega
   have q:=a.out.own;rw[List.take_length,List.drop_length,List.append_nil]at q;have X:=J6 (show _/\_/\_ from⟨q,a.out.S,a.out.alt⟩);rw[List.take_length];clear q a;go_wp2;go_ret;exact⟨A,C,rfl,X.out.2.1,X.out.1,X.out.2.2⟩
theorem j3n(g:Nat)(p:Pr)(v:PrV)(P:Nat->Prop)(w:World)(n:CAt 58 w g (prC p v))(hp:Rep P w v.ws 8 64 (wsL p.s.W))(h0:0<=p.h)(h1:p.h<=1099511627776) :
  Calls prog 82 #[J2 (some ⟨g,0,none⟩),J I 1] w fun e w'=>∃ A C,e=.returned (J3 (p.s.W.any (fun x=>decide (x.hei=p.h+1))))/\CAt 58 w' g (prC p { v with ws:=J1 A p.s.W.length C })/\z2d w.heap.size w' A C (p.s.W.map (z1A 1 (p.h+1)))/\Alt g w w':=by
 obtain⟨ao,c,sb,so,r,Q,-,-⟩:=hp.z9Z;have Y:=Q.len;have t:=J6 (z7H g p v w n h0 h1);have u:=z2T ao p.s.W c sb so w Q;have o:w.cell? ⟨g,63,none⟩=some (J1 ao p.s.W.length c):=by rw[<- r];exact n.cell 63
 have f:=n.free 63;have a0:=n.lt;have Z:=J6 n;clear n hp Q r;generalize R:p.h+1=hh at *;clear R
 go_enter func82,ntmps82
 go_upto_region 3 with (first
  | (go_at_call 70;refine t.out.mono ?_;rintro e w'⟨rfl,rfl⟩)
  | (go_at_call 38;refine u.mono ?_;rintro e w1⟨A,C,rfl,q,j⟩;have y:=Z.out.over j;have a1:=y.lt;clear o;have o:w1.cell? ⟨g,63,none⟩=some v.ws:=y.cell 63;clear f;have f:=y.free 63;have l:=J6 q;have z:=J6 j;clear j q))
 have B:=y.set 63 (J1 A p.s.W.length C);rw[q3q]at B;have b:=(But.refl g w1).set 63 (J1 A p.s.W.length C);have A2:Alt g w (w1.setCell ⟨g,63,none⟩ (J1 A p.s.W.length C)):=(Alt.of (g:=g) z.out).set 63 _;have D:Hid (z2d w.heap.size (w1.setCell ⟨g,63,none⟩ (J1 A p.s.W.length C)) A C p.s.W):=z1c l.out fun k hk=>b.block _ (by have:=(World.ownsRow.lt l.out k hk).1;omega)
 generalize w1.setCell ⟨g,63,none⟩ (J1 A p.s.W.length C)=w2 at *;clear o f y l z b u t Z;have o:w2.cell? ⟨g,63,none⟩=some (J1 A p.s.W.length C):=B.cell 63;have a2:g<w2.heap.size:=B.lt;have E:Hid (HRl p v (z1A 1 hh) w g A C 0 w2):=⟨D.out,B,A2⟩;clear B D A2
 go_upto_region 4 with fail
 go_loopw [27,6] (fun i fo wl=>∃ (k:Nat),k<=p.s.W.length/\i=J I (k:Int)/\fo=J3 ((p.s.W.take k).any (fun x=>decide (x.hei=hh)))/\Hid (HRl p v (z1A 1 hh) w g A C k wl)) (fun i _ _=>p.s.W.length - (intOf i).toNat)
 case atStart=>exact⟨0,Nat.zero_le _,rfl,rfl,E⟩
 case round =>
  obtain⟨k,hk,rfl,rfl,a⟩:=hrel;clear E o;have a3:=a.out.S.lt;have o:wr.cell? ⟨g,63,none⟩=some (J1 A p.s.W.length C):=a.out.S.cell 63
  by_cases F:k<p.s.W.length
  ·obtain⟨x,T,_⟩:=drop_at F;obtain⟨e1,M,e3⟩:=z6K (z1A 1 hh) T;obtain⟨N,rfl,a4,a5,G⟩:=a.out.own.holds (by omega)
   obtain⟨c6,c7,f6,f7⟩:=G k x M;have c4:=a.out.own.hei M;have H:=a.out.own.cap;rw[e3]at H;have K:=J6 e1;have L:=J6 M;have ha:=q2T (fun x=>decide (x.hei=hh)) T;have HA:=J6 ha;generalize (p.s.W.take k).any (fun x=>decide (x.hei=hh))=bk at *;clear G e1 M T ha
   by_cases d:x.hei=hh
   ·have U:Hid (z1A 1 hh x={ x with h1:=hh }):=by show _=_;unfold z1A;simp[d]
    have m:Hid ((p.s.W.take (k+1)).any (fun x=>decide (x.hei=hh))=true):=by show _=_;rw[HA.out];simp[d]
    have HN:Hid (HRl p v (z1A 1 hh) w g (some ⟨N,0,none⟩) C (k+1) (wr.setCell ⟨N,k * 8+7,none⟩ (J I hh))):=by
     have b:=(But.refl N wr).set (k * 8+7) (J I hh);exact⟨by rw[K.out,U.out];exact a.out.own.put L.out _ 7 _ (by omega) rfl,(b.block g (by have:=a.out.alt.size;omega)).trans a.out.S,a.out.alt.far (by omega) _ _⟩
    go_wp2;exact⟨⟨k+1,by omega,by go_num,by rw[m.out],HN⟩,by simp[intOf];omega⟩
   ·have U:Hid (z1A 1 hh x=x):=by show _=_;unfold z1A;simp[d]
    have m:Hid ((p.s.W.take (k+1)).any (fun x=>decide (x.hei=hh))=bk):=by show _=_;rw[HA.out];simp[d]
    have V:Hid (HRl p v (z1A 1 hh) w g (some ⟨N,0,none⟩) C (k+1) wr):=⟨by rw[K.out,U.out,z5u L.out];exact a.out.own,a.out.S,a.out.alt⟩
    go_wp2;exact⟨⟨k+1,by omega,by go_num,by rw[m.out],V⟩,by simp[intOf];omega⟩
  ·obtain rfl:k=p.s.W.length:=by omega
   have q:=a.out.own;rw[List.take_length,List.drop_length,List.append_nil]at q;have X:=J6 (show _/\_/\_ from⟨q,a.out.S,a.out.alt⟩);rw[List.take_length];clear q a;go_wp2;go_ret;exact⟨A,C,rfl,X.out.2.1,X.out.1,X.out.2.2⟩
theorem q8Z(g:Nat)(p:Pr)(v:PrV)(P:Nat->Prop)(w:World)(c:Nat)(hc:c<2)(k:CAt 58 w g (prC p v))(hp:Rep P w v.ws 8 64 (wsL p.s.W))(h0:0<=p.h)(h1:p.h<=1099511627776) :
  Calls prog 82 #[J2 (some ⟨g,0,none⟩),J I (c:Int)] w fun e w'=>∃ u,e=.returned (J3 (p.s.W.any (fun x=>decide (x.hei=p.h+1))))/\CAt 58 w' g (prC { p with s:={ p.s with W:=p.s.W.map (z1A c (p.h+1)) } } { v with ws:=u })/\Rep (fun b=>w.heap.size<=b) w' u 8 64 (wsL (p.s.W.map (z1A c (p.h+1))))/\Alt g w w':=by
 have d:(p.s.W.map (z1A c (p.h+1))).length=p.s.W.length:=List.length_map _;have a:p.s.W.length * 64<=140737488351232:=by obtain⟨_,_,_,_,_,l,-,-⟩:=hp.z9Z;exact l.len
 match c,hc with
 | 0,_ =>
  refine (j3d g p v P w k hp h0 h1).mono ?_;rintro e w'⟨A,C,rfl,f,i,j⟩;have:=z2d.rep i (by rw[d];exact a)
  rw[d]at this;exact⟨_,rfl,f,this,j⟩
 | 1,_ =>
  refine (j3n g p v P w k hp h0 h1).mono ?_;rintro e w'⟨A,C,rfl,f,i,j⟩;have:=z2d.rep i (by rw[d];exact a)
  rw[d]at this;exact⟨_,rfl,f,this,j⟩
end Pv
namespace Pv
open Go.RowKit Wd
theorem j4i:(prog.info? 52).map (·.size)=some 14:=by kernel_rfl
def j3k(a v:Value):Sem Unit:=Instr.storeAt 52 a v
theorem q5g(a v:Value):Instr.storeAt 52 a v=j3k a v:=rfl
def z5G(h:Int)(set:List (Int×Int))(f:Bool):Lk:=⟨true,false,h,set,f,[],⟨[],[],0,false⟩,0,0,0,0⟩
def q2H(u:Value):LkV:=⟨u,J1 none 0 0,J1 none 0 0,J1 none 0 0⟩
theorem q9Z(p:Pr)(v:PrV)(k:Nat)(b:k<2)(y:Lk)(u:LkV)(f:Bool):(prC { p with L:=z1a p.L k y } (v.upd k u)).setIfInBounds (66+k * 14+4) (J3 f)=prC { p with L:=z1a p.L k { y with fresh:=f } } (v.upd k u):=by
 obtain⟨a,c,d,h1,h2⟩:=z5q p v k b;rw[h2,h2,set_mid _ _ _ _ 4 _ d (by simp[lkL])]
 rfl
attribute [local go_sem ↓] z1B z0H z0w z1w q5g
theorem q4n(p:Pr)(v:PrV)(P:Nat->Prop)(w:World)(c:Int)(hp:PIn P w p v) :
  Calls prog 59 #[J4 (prC p v),J I c] w (j2B P w (z1R p c)):=by
 have hD:z1R p c=if z0J p=true then (if isC c=true then (if (p.L c.toNat).gone=true then (p,11) else if (p.L c.toNat).on=true then (p,5) else if p.h=0∨p.set.length=0 then (p,13) else ({ p with s:={ p.s with W:=p.s.W.map (z1A c.toNat (p.h+1)) },L:=z1a p.L c.toNat (q2m p) },0)) else (p,4)) else (p,2):=by unfold z1R;rfl
 generalize z1R p c=D at *;have a:=J6 hD;clear hD;have B:=z0Y hp;have Y:=J6 (fun (z:World) (hb:Bl w z)=>z3a p v P z (hp.over hb));have T:=J6 (fun (z:World) (hb:Bl w z)=>hp.z2y hb 2);have HP:=J6 hp
 have HG:Hid (z0J p=true->0<=p.h/\p.h<=1099511627776):=fun h=>by
  unfold z0J at h;simp only[Bool.and_eq_true,decide_eq_true_eq]at h;omega
 clear hp;generalize z0J p=G at *
 go_enter func59,ntmps59
 go_upto_region 1 with fail
 change Code.wp prog _ _ _ ((w.alloc (J5 (prC p v) 58)).alloc (J5 zeroCells58 58));have C0:CAt 58 ((w.alloc (J5 (prC p v) 58)).alloc (J5 zeroCells58 58)) w.heap.size (prC p v):=(CAt.new _ w _).alloc _;have R0:CAt 58 ((w.alloc (J5 (prC p v) 58)).alloc (J5 zeroCells58 58)) (w.heap.size+1) zeroCells58:=CAt.new2 _ w _ _;have B0:Bl w ((w.alloc (J5 (prC p v) 58)).alloc (J5 zeroCells58 58)):=(znw w _).alloc (by simp) _
 generalize (w.alloc (J5 (prC p v) 58)).alloc (J5 zeroCells58 58)=w0 at *;have l0:=z0j C0 (z0b _ _);have C:=J6 (show _/\_/\_ from⟨C0,R0,B0⟩);clear C0 R0 B0;cases G
 ·replace a:=J6 (a.out.trans (if_neg (by simp)))
  go_wp2_with (go_at_call 67;refine (Y.out _ C.out.2.2).mono ?_;rintro e w1⟨rfl,d⟩;clear l0;have l1:=z0j (C.out.1.over d) (z0b _ _);have s1:=z0k (C.out.2.1.over d) z0d (z0b p v) B)
  exact z0K results59 (C.out.2.1.over d) z0d (zbt C.out.2.2 d) p v 2 D a.out (T.out _ (zbt C.out.2.2 d)) _ rfl rfl rfl
 replace a:=J6 (a.out.trans (if_pos rfl));obtain⟨g0,g1⟩:=HG.out rfl;clear HG
 go_upto_region 3 with (go_at_call 67;refine (Y.out _ C.out.2.2).mono ?_;rintro e w1⟨rfl,d⟩;clear l0)
 have E:=C.out.1.over d;have R1:=C.out.2.1.over d;have B1:=zbt C.out.2.2 d;have l1:=z0j E (z0b _ _);have s1:=z0k R1 z0d (z0b p v) B;have b5:=R1.lt;have f:=J6 (show _/\_/\_ from⟨R1,B1,E⟩);clear R1 B1 d B C Y
 by_cases t:isC c=true
 case neg =>
  replace a:=J6 (a.out.trans (if_neg t));have U:isC c=false:=by simpa using t
  have u:=J6 U;clear t U E
  go_wp2_with (go_at_call 81;refine (z2F _ _).mono ?_;rintro e w'⟨rfl,rfl⟩;simp only[u.out])
  exact z0K results59 f.out.1 z0d f.out.2.1 p v 4 D a.out (T.out _ f.out.2.1) _ rfl rfl rfl
 replace a:=J6 (a.out.trans (if_pos t));have u:=J6 t;obtain⟨k,rfl,hk⟩:=z9a t;rw[Int.toNat_natCast]at a;clear t;have b6:(k:Int)<2:=by omega
 have b7:(0:Int)<=(k:Int):=by omega
 obtain⟨c0,c1,-⟩:=(E.lk hk).facts
 by_cases F:(p.L k).gone=true
 ·rw[F]at c1;replace a:=J6 (a.out.trans (if_pos F));clear E
  go_wp2_with (go_at_call 81;refine (z2F _ _).mono ?_;rintro e w'⟨rfl,rfl⟩;simp only[u.out])
  exact z0K results59 f.out.1 z0d f.out.2.1 p v 11 D a.out (T.out _ f.out.2.1) _ rfl rfl rfl
 replace a:=J6 (a.out.trans (if_neg F));have V:(p.L k).gone=false:=by simpa using F
 rw[V]at c1;clear F V
 by_cases H:(p.L k).on=true
 ·rw[H]at c0;replace a:=J6 (a.out.trans (if_pos H));clear E
  go_wp2_with (go_at_call 81;refine (z2F _ _).mono ?_;rintro e w'⟨rfl,rfl⟩;simp only[u.out])
  exact z0K results59 f.out.1 z0d f.out.2.1 p v 5 D a.out (T.out _ f.out.2.1) _ rfl rfl rfl
 replace a:=J6 (a.out.trans (if_neg H));have X:(p.L k).on=false:=by simpa using H
 rw[X]at c0;clear H X;obtain⟨M,N,e6,b8,-⟩:=HP.out.set.open (z0c p.set) (by decide)
 have a0:w1.cell? ⟨w.heap.size,0,none⟩=some (J I p.h):=E.cell 0;have a1:w1.cell? ⟨w.heap.size,65,none⟩=some (J1 M p.set.length N):=by rw[<- e6];exact E.cell 65
 have a2:=J6 e6;clear e6
 by_cases h0:p.h=0
 ·replace a:=J6 (a.out.trans (if_pos (.inl h0)));rw[h0]at a0;clear E
  go_wp2_with (go_at_call 81;refine (z2F _ _).mono ?_;rintro e w'⟨rfl,rfl⟩;simp only[u.out])
  exact z0K results59 f.out.1 z0d f.out.2.1 p v 13 D a.out (T.out _ f.out.2.1) _ rfl rfl rfl
 by_cases hn:p.set.length=0
 ·replace a:=J6 (a.out.trans (if_pos (.inr hn)));rw[hn]at a1;clear E
  go_wp2_with (go_at_call 81;refine (z2F _ _).mono ?_;rintro e w'⟨rfl,rfl⟩;simp only[u.out])
  exact z0K results59 f.out.1 z0d f.out.2.1 p v 13 D a.out (T.out _ f.out.2.1) _ rfl rfl rfl
 replace a:=J6 (a.out.trans (if_neg (fun h=>by rcases h with h | h;exact h0 h;exact hn h)))
 have a8:¬ ((p.set.length:Int)=0):=by omega
 have d:(p.h == 0)=false:=by simpa using h0
 have b9:((p.set.length:Int) == 0)=false:=by simpa using a8
 have A:=(Below.refl w1.heap.size w1).drew;have a3:=J6 (z6m p.set (J1 M p.set.length N) P w1.drew (by rw[<- a2.out];exact HP.out.set.over (zbt f.out.2.1 A)))
 have HS:w1.drew.cell? ⟨w.heap.size,0,none⟩=some (J I p.h)/\w1.drew.cell? ⟨w.heap.size,65,none⟩=some (J1 M p.set.length N):=⟨a0,a1⟩;clear E A
 go_upto_region 12 with (go_at_call 81;refine (z2F _ _).mono ?_;rintro e w'⟨rfl,rfl⟩;simp only[u.out])
 refine wp_region_held_drew (S:=fun z=>z.cell? ⟨w.heap.size,0,none⟩=some (J I p.h)/\z.cell? ⟨w.heap.size,65,none⟩=some (J1 M p.set.length N)) (by kernel_rfl) HS (fun Q=>?_)
 refine O.Z 0 (J2 (some ⟨w.heap.size,66+k * 14,none⟩)) 38 rfl rfl Q (fun z r=>?_) ?_
 ·go_simp
 refine O.Z 1 (J2 (some ⟨w.heap.size,0,none⟩)) 39 rfl rfl Q (fun z r=>?_) ?_
 ·go_simp
 refine O.Z 2 (J I p.h) 40 rfl rfl Q (fun z r=>?_) ?_
 ·have l:=r.1;go_simp
 refine O.Z 3 (J2 (some ⟨w.heap.size,65,none⟩)) 41 rfl rfl Q (fun z r=>?_) ?_
 ·go_simp
 refine O.Z 4 (J1 M p.set.length N) 42 rfl rfl Q (fun z r=>?_) ?_
 ·have l:=r.2;go_simp
 refine wpAnyH_ready (rs:=[5]) (by kernel_rfl) (by simp) ?_
 refine AllReadyH.cons rfl (fun K hK=>?_) AllReadyH.nil;go_simp;refine a3.out.mono ?_;rintro e w3⟨u3,rfl,U3,a4⟩;obtain⟨j,m,n,rfl⟩:=U3.one';have b3:=(Below.refl w1.heap.size w1).drew.trans a4;dsimp only;refine hK.out _ _ ⟨(f.out.2.2.over b3).cell 0,((f.out.2.2.over b3).cell 65).trans (congrArg some a2.out)⟩ (fun Q=>?_);clear hK K;refine O.Z 6 (J4 #[J3 true,J3 false,J I p.h,J1 j m n,J3 false,J1 none 0 0,J1 none 0 0,J1 none 0 0,J I 0,J3 false,J I 0,J I 0,J I 0,J I 0]) 44 rfl rfl Q (fun z r=>?_) ?_
 ·go_simp
 refine O.Z 7 (J2 (some ⟨w.heap.size,66+k * 14,none⟩)) 45 rfl rfl Q (fun z r=>?_) ?_
 ·go_simp
 have q1:(Option.map (fun x=>x.size) (prog.info? 52))=some (#[J3 true,J3 false,J I p.h,J1 j m n,J3 false,J1 none 0 0,J1 none 0 0,J1 none 0 0,J I 0,J3 false,J I 0,J I 0,J I 0,J I 0]:Array Value).size:=by rw[j4i];rfl
 have q2:(#[J3 true,J3 false,J I p.h,J1 j m n,J3 false,J1 none 0 0,J1 none 0 0,J1 none 0 0,J I 0,J3 false,J I 0,J I 0,J I 0,J I 0]:Array Value).all (fun x=>x.oneCell')=true:=by simp[Value.oneCell']
 have q3:w3.there w.heap.size (66+k * 14) (#[J3 true,J3 false,J I p.h,J1 j m n,J3 false,J1 none 0 0,J1 none 0 0,J1 none 0 0,J I 0,J3 false,J I 0,J I 0,J I 0,J I 0]:Array Value).size:=(q8I p v hk (z5G p.h p.set false) (q2H (J1 j m n))).there (f.out.2.2.over b3);have C4:=(q8I p v hk (z5G p.h p.set false) (q2H (J1 j m n))).sets (f.out.2.2.over b3);have qS:(w3.setCells w.heap.size (66+k * 14) (lkL (z5G p.h p.set false) (q2H (J1 j m n)))).cell? ⟨w.heap.size,0,none⟩=some (J I p.h)/\(w3.setCells w.heap.size (66+k * 14) (lkL (z5G p.h p.set false) (q2H (J1 j m n)))).cell? ⟨w.heap.size,65,none⟩=some (J1 M p.set.length N):=⟨C4.cell 0,(C4.cell 65).trans (congrArg some a2.out)⟩;refine O.z0n (i:=8) (by kernel_rfl) rfl rfl 52 _ _ rfl rfl w.heap.size (66+k * 14) #[J3 true,J3 false,J I p.h,J1 j m n,J3 false,J1 none 0 0,J1 none 0 0,J1 none 0 0,J I 0,J3 false,J I 0,J I 0,J I 0,J I 0] rfl rfl q3 q1 q2 qS ?_
 refine wpAnyH_done (by kernel_rfl) ?_ _
 have R4:=(f.out.1.over b3).others (c:=w.heap.size) (o:=66+k * 14) (by omega) (lkL (z5G p.h p.set false) (q2H (J1 j m n)))
 have B3:=zbt f.out.2.1 b3;have B4:=z0a (b:=w.heap.size) (Nat.le_refl _) (lkL (z5G p.h p.set false) (q2H (J1 j m n))) (66+k * 14) _ B3;have A:w1.drew.heap.size=w1.heap.size:=rfl;have U4:=U3.sets (g:=w.heap.size) (fun h=>by rw[A]at h;omega) (66+k * 14) (lkL (z5G p.h p.set false) (q2H (J1 j m n)))
 change Exit.then _ _ _ _ (w3.setCells w.heap.size (66+k * 14) (lkL (z5G p.h p.set false) (q2H (J1 j m n))));clear q1 q2 q3 qS HS Q a4 U3 l1 s1 c0 c1 a0 a1 a3;generalize w3.setCells w.heap.size (66+k * 14) (lkL (z5G p.h p.set false) (q2H (J1 j m n)))=w4 at *;have HH:=J6 (q8Z w.heap.size { p with L:=z1a p.L k (z5G p.h p.set false) } (v.upd k (q2H (J1 j m n))) (New P w 2) w4 k hk C4 (T.out _ B4).ws g0 g1)
 have c4:=R4.lt;have b4:=b3.size;have H4:=J6 (show _/\_/\_/\_ from⟨C4,R4,B4,U4⟩);clear C4 R4 B4 U4 B3;obtain⟨TL,a5⟩:∃ y:Value,y=J4 #[J3 true,J3 false,J I p.h,J1 j m n,J3 false,J1 none 0 0,J1 none 0 0,J1 none 0 0,J I 0,J3 false,J I 0,J I 0,J I 0,J I 0]:=⟨_,rfl⟩;rw[<- a5];clear a5;generalize a6:p.s.W.any (fun x=>decide (x.hei=p.h+1))=AB at *;go_simp
 go_upto_region 14 with (go_at_call 82;refine HH.out.mono ?_;rintro e w5⟨u5,rfl,C5,U5,A5⟩;have f5:=C5.free (66+k * 14+4);have y5:=(C5.lk hk).facts.2.2.2.2.1;have a9:=C5.lt)
 have N:CAt 58 (w5.setCell ⟨w.heap.size,66+k * 14+4,none⟩ (J3 AB)) w.heap.size (prC { p with s:={ p.s with W:=p.s.W.map (z1A k (p.h+1)) },L:=z1a p.L k { z5G p.h p.set false with fresh:=AB } } (PrV.upd { v with ws:=u5 } k (q2H (J1 j m n)))):=by
  have h:=C5.set (66+k * 14+4) (J3 AB);exact Eq.mp (congrArg (CAt 58 (w5.setCell ⟨w.heap.size,66+k * 14+4,none⟩ (J3 AB)) w.heap.size) (q9Z { p with s:={ p.s with W:=p.s.W.map (z1A k (p.h+1)) } } { v with ws:=u5 } k hk (z5G p.h p.set false) (q2H (J1 j m n)) AB)) h
 have M:Alt w.heap.size w4 (w5.setCell ⟨w.heap.size,66+k * 14+4,none⟩ (J3 AB)):=A5.set _ _;have R6:=M.cat (b:=w.heap.size+1) (by omega) H4.out.2.1
 have B6:=H4.out.2.2.1.trans (M.below (Nat.le_refl _) H4.out.2.2.1.size);have n6:=T.out _ B6;have c5:=H4.out.2.2.1.size
 have N6:PIn (New P w 2) (w5.setCell ⟨w.heap.size,66+k * 14+4,none⟩ (J3 AB)) { p with s:={ p.s with W:=p.s.W.map (z1A k (p.h+1)) },L:=z1a p.L k { z5G p.h p.set false with fresh:=AB } } (PrV.upd { v with ws:=u5 } k (q2H (J1 j m n))):=by
  refine⟨?_,n6.set,fun c hc=>?_,n6.q⟩
  ·have h5:=((Alt.refl w.heap.size w5).set (66+k * 14+4) (J3 AB)).rep (P:=fun b=>w4.heap.size<=b) (fun h=>by omega) U5
   exact h5.mono fun b _ hb=>.inr (by have:w4.heap.size<=b:=hb;omega)
  ·show z5g _ _ (z1a p.L k { z5G p.h p.set false with fresh:=AB } c) (if c=k then q2H (J1 j m n) else v.l c)
   unfold z1a
   by_cases R:c=k
   ·rw[if_pos R,if_pos R];refine⟨?_,Rep.nil _ _ _ _,z0C.nil _ _ _ _,z0C.nil _ _ _ _⟩;have h4:=M.rep (P:=fun b=>w1.drew.heap.size<=b) (fun h=>by rw[A]at h;omega) H4.out.2.2.2
    exact h4.mono fun b _ hb=>.inr (by have h:w1.drew.heap.size<=b:=hb;rw[A]at h;omega)
   ·rw[if_neg R,if_neg R];exact n6.lk c hc
 obtain⟨p6,v6,a7,K6,M6⟩:∃ p6 v6,D=(p6,0)/\CAt 58 (w5.setCell ⟨w.heap.size,66+k * 14+4,none⟩ (J3 AB)) w.heap.size (prC p6 v6)/\PIn (New P w 2) (w5.setCell ⟨w.heap.size,66+k * 14+4,none⟩ (J3 AB)) p6 v6:=⟨_,_,by rw[a.out,<- a6];rfl,N,N6⟩
 have l6:=z0j K6 (z0b _ _);have s6:=z0k R6 z0d (z0b p6 v6) (z0Y M6);have HY:=J6 (show _/\_/\_/\_ from⟨R6,B6,M6,a7⟩);clear N K6 R6 B6 M N6 M6 n6 C5 U5 A5 H4 HH f5 y5 a9 a a7 a6;generalize w5.setCell ⟨w.heap.size,66+k * 14+4,none⟩ (J3 AB)=w6 at *;go_wp2;exact z0K results59 HY.out.1 z0d HY.out.2.1 p6 v6 0 D HY.out.2.2.2 HY.out.2.2.1 _ rfl rfl rfl
end Pv
namespace Pv
open Go.RowKit
structure j6Y(P:Nat->Prop)(w wl:World)(lv:Value)(l:List (Int×Pkt))(z:List (Value×Value)):Prop where
 len:z.length=l.length
 own:wl.ownsRow (w.heap.size+1) 70 7 lv l.length (quL l z)
 ins:∀ (i:Nat) (x:Int×Pkt) (y:Value×Value),l[i]?=some x->z[i]?=some y->Rep P w y.1 2 16 (pwC x.2.S)/\Rep P w y.2 1 8 (inC x.2.D)
theorem q2K(w:World)(x:Int×Pkt)(y:Value×Value)(t:TypeId):∀ j u,(akL x y)[j]?=some u->(w.alloc (J5 #[J I x.1,J I x.2.k,J I x.2.i,J I x.2.v,J I x.2.n,y.1,y.2] t)).cell? ((⟨w.heap.size,0,none⟩:Addr).add j)=some u:=fun j u hu=>by
 rw[Addr.add_lit,Nat.zero_add];have h:=(CAt.new t w #[J I x.1,J I x.2.k,J I x.2.i,J I x.2.v,J I x.2.n,y.1,y.2]).cell j;rw[h]
 simpa [akL] using hu
theorem q5O(z:QS)(a:Int×Pkt):(z2r z a).left.length<=z.left.length+1:=by
 unfold z2r
 split
 ·simp
 ·split
  ·simp
  ·simp
theorem q3Y{p:Pr}{c:Nat}{x:Pkt}(h:(z1L p c x).2=false):(z1L p c x).1=p:=by
 unfold z1L at *
 repeat' split at h
 all_goals first | (cases h;done) | skip
 all_goals simp_all
theorem j6I(p:Pr)(c:Nat)(x:Pkt):(z1L p c x).1.q=p.q:=by
 unfold z1L
 repeat' split
 all_goals rfl
theorem z9F:∀ (l:List (Int×Pkt)) (z:QS),(l.foldl z2r z).p.q=z.p.q/\(l.foldl z2r z).left.length<=z.left.length+l.length
 | [],z=>⟨rfl,Nat.le_refl _⟩
 | a :: l,z=>by
  have h:=z9F l (z2r z a);rw[List.foldl_cons];refine⟨h.1.trans ?_,by have:=q5O z a;rw[List.length_cons];omega⟩
  unfold z2r
  split
  ·rfl
  ·split
   ·exact j6I _ _ _
   ·rfl
structure QuR(Inv:Pr->Prop)(P:Nat->Prop)(w:World)(g:Nat)(s:QS)(lv:Value)(wl:World):Prop where
 st:∃ (v:PrV) (Q:Nat->Prop),CAt 58 wl g (prC s.p v)/\PIn Q wl s.p v/\(∀ b,Q b->New P w 0 b)/\¬ Q g/\¬ Q w.heap.size/\(∀ r,lv.ownBlock=some r->¬ Q r)
 wt:CAt 82 wl w.heap.size #[J3 (s.wt 0),J3 (s.wt 1)]
 lf:∃ z,j6Y P w wl lv s.left z
 A:Alt g w wl
 inv:Inv s.p
theorem Alt.past{g:Nat}{w w':World}(h:Alt g w w'){b:Nat}(hb:w.heap.size<=b)(o:Nat)(x:Value):Alt g w (w'.setCell ⟨b,o,none⟩ x):=
 ⟨h.os,h.tape,h.output,(by simp[World.setCell];exact h.size),fun k a c=>(Below.heap_setCell _ _ _ _ (show k≠b by omega)).trans (h.block k a c)⟩
theorem QuR.wait{Inv:Pr->Prop}{P:Nat->Prop}{w c n:World}{g:Nat}{s:QS}{lv v':Value}{q:PrV}{Q:Nat->Prop}{o:List (Value×Value)}{d:Nat->Bool}{x:Int×Pkt}{y:Value×Value}{z:Obj}
  (N:g<w.heap.size) (L:CAt 58 c g (prC s.p q)) (R:PIn Q c s.p q) (A:∀ b,Q b->New P w 0 b) (B:¬ Q g) (C:¬ Q w.heap.size) (t:∀ r,lv.ownBlock=some r->¬ Q r) (M:CAt 82 c w.heap.size #[J3 (d 0),J3 (d 1)])
  (T:c.ownsRow (w.heap.size+1) 70 7 lv s.left.length (quL s.left o)) (u:o.length=s.left.length) (U:∀ (i:Nat) (x:Int×Pkt) (y:Value×Value),s.left[i]?=some x->o[i]?=some y->Rep P w y.1 2 16 (pwC x.2.S)/\Rep P w y.2 1 8 (inC x.2.D)) (l:Alt g w c) (V:Inv s.p)
  (E:Rep P w y.1 2 16 (pwC x.2.S)/\Rep P w y.2 1 8 (inC x.2.D)) (W:n.ownsRow (w.heap.size+1) 70 7 v' (s.left.length+1) (quL s.left o ++ akL x y)) (f:(c.alloc z).grownBy n lv.ownBlock) (F:v'.ownBlock=lv.ownBlock∨v'.ownBlock=some (c.alloc z).heap.size) :
  QuR Inv P w g { s with wt:=d,left:=s.left ++ [x] } v' n:=by
 have v:Bl c (c.alloc z):=znw c _;have m:=v.size;have hown:∀ r,lv.ownBlock=some r->w.heap.size+1<=r/\r<c.heap.size:=fun r e=>World.ownsRow.lt T r e;have X:CAt 58 n g (prC s.p q):=(f.block g (Nat.lt_of_lt_of_le L.lt m) (fun e=>by have:=(hown g e.symm).1;omega)).trans (L.over v)
 have Y:CAt 82 n w.heap.size #[J3 (d 0),J3 (d 1)]:=(f.block w.heap.size (Nat.lt_of_lt_of_le M.lt m) (fun e=>by have:=(hown _ e.symm).1;omega)).trans (M.over v)
 have G:∀ b,b<c.heap.size->Q b->some b≠v'.ownBlock:=fun b hb Z e=>by
  rcases F with h | h
  ·exact t b (by rw[<- h,e]) Z
  ·rw[h]at e;cases e;omega
 have P9:PIn (fun b=>Q b/\some b≠v'.ownBlock) n s.p q:=((R.mono (P':=fun b=>(Q b/\some b≠v'.ownBlock)) fun b H hb=>⟨hb,G b H hb⟩).over v).keep fun b hb K=>f.block b K fun e=>t b e.symm hb.1;refine⟨⟨q,_,X,P9,fun b h=>A b h.1,fun h=>B h.1,fun h=>C h.1,fun r e h=>h.2 e.symm⟩,Y,⟨o ++ [y],by simp[u],?_,fun i a b j hb=>?_⟩,?_,V⟩
 ·rw[q2A s.left o x y u,List.length_append];exact W
 ·by_cases h:i<s.left.length
  ·rw[List.getElem?_append_left h]at j;rw[List.getElem?_append_left (by rw[u];exact h)]at hb
   exact U i a b j hb
  ·rw[List.getElem?_append_right (by omega)]at j
   rw[List.getElem?_append_right (by rw[u];omega),u]at hb
   rcases Nat.eq_zero_or_pos (i - s.left.length) with h0 | h0
   ·rw[h0]at j hb
    simp at j hb
    subst j hb;exact E
   ·rw[List.getElem?_eq_none (by simp;omega)]at j
    cases j
 ·exact⟨f.os.trans l.os,f.tape.trans l.tape,f.output.trans l.output,Nat.le_trans l.size (Nat.le_trans m f.size),fun k hk hn=>((f.block k (by have:=l.size;omega) (fun e=>by have:=(hown k e.symm).1;omega)).trans (v.block k (by have:=l.size;omega))).trans (l.block k hk hn)⟩
theorem j7O(p:Pr)(v:PrV)(l:List (Int×Pkt))(x:Value):(prC p v).setIfInBounds 96 x=prC { p with q:=l } { v with q:=x }:=rfl
theorem j2u(f:Nat->Bool){m:Nat}(a:m<2):(#[J3 (f 0),J3 (f 1)]:Array Value).setIfInBounds m (J3 true)=#[J3 ((fun i=>if i=m then true else f i) 0),J3 ((fun i=>if i=m then true else f i) 1)]:=by
 rcases (show m=0∨m=1 by omega) with rfl | rfl <;> rfl
theorem q6g(Inv:Pr->Prop)(g:Nat)(p:Pr)(v:PrV)(P:Nat->Prop)(w:World)(hC:CAt 58 w g (prC p v))(hp:PIn P w p v)(hg:¬ P g)(h0:Inv p)(i7:p.q.length * 88<=140737488355328)(hq:∀ a∈p.q,0<=a.1/\a.1<2)
  (c9:∀ a∈p.q,∀ (p':Pr) (v':PrV) (P':Nat->Prop) (wx:World) (y1 y2:Value),Inv p'->CAt 58 wx g (prC p' v')->PIn P' wx p' v'->¬ P' g->Calls prog 109 #[J2 (some ⟨g,0,none⟩),J4 #[.int .i64 a.1,.int .i64 a.2.k,.int .i64 a.2.i,.int .i64 a.2.v,.int .i64 a.2.n,y1,y2]] wx (z4d wx g P' (z1L p' a.1.toNat a.2)))
  (hI:∀ a∈p.q,∀ p',Inv p'->Inv (z1L p' a.1.toNat a.2).1) :
  Calls prog 77 #[J2 (some ⟨g,0,none⟩)] w (Turns w g P (z0L p)):=by
 obtain⟨i0,hi,d0,d1,d2⟩:=info_parts q7T;have g5:=hC.lt;have d3:z0L p={ (goQ p).p with q:=(goQ p).left }:=rfl
 have d4:goQ p=p.q.foldl z2r ⟨p,fun _=>false,[]⟩:=rfl;generalize z0L p=D at *;generalize goQ p=G at *;obtain⟨z,b8,d5,d6⟩:=id hp.q;obtain⟨Aq,Cq,eq,sq,-,cq,-⟩:=d5.open (z0U _ _ b8) (by decide)
 have g6:=J6 b8;have g8:=J6 d6;have g9:=J6 cq;have h4:p.q.length<=1759218604390:=by omega
 have h5:=J6 hq;have h6:=J6 c9;have h7:=J6 hI;have h8:=J6 d3;have d7:=J6 d4;have B0:Bl w (w.alloc (J5 #[J3 false,J3 false] 82)):=znw w _;have H0:Hid (QuR Inv P w g ⟨p,fun _=>false,[]⟩ (J1 none 0 0) (w.alloc (J5 #[J3 false,J3 false] 82))):=⟨⟨v,fun b=>P b/\b<w.heap.size,hC.over B0,(hp.mono fun b hl h=>⟨h,hl⟩).over B0,fun b h=>.inl h,fun h=>hg h.1,fun h=>by have:=h.2;omega,fun r e=>by cases e⟩,CAt.new _ _ _,⟨[],rfl,World.ownsRow_nil _ _ _ _,fun i x y h=>by cases h⟩,Alt.of B0,h0⟩
 clear b8 d6 d5 cq hq c9 hI d3 d4 B0 h0 sq
 go_enter func77,ntmps77
 go_upto_region 2 with fail
 have d8:(w.alloc (J5 #[J3 false,J3 false] 82)).cell? ⟨g,96,none⟩=some (J1 Aq p.q.length Cq):=by rw[<- eq];exact (hC.alloc _).cell 96
 generalize w.alloc (J5 #[J3 false,J3 false] 82)=w0 at *
 go_upto_region 3 with fail
 clear d8 eq
 go_loopw [3,11] (fun lv i wl=>∃ (k:Nat),k<=p.q.length/\i=.int .i64 (k:Int)/\Hid (QuR Inv P w g ((p.q.take k).foldl z2r ⟨p,fun _=>false,[]⟩) lv wl)) (fun _ i _=>p.q.length - (intOf i).toNat)
 case atStart=>exact⟨0,Nat.zero_le _,rfl,H0⟩
 case round =>
  obtain⟨k,hk,rfl,HR⟩:=hrel
  by_cases a7:k<p.q.length
  ·have j1:(k:Int)<(p.q.length:Int):=by omega
   have hk0:(0:Int)<=(k:Int):=by omega
   have hx:p.q[k]?=some p.q[k]:=List.getElem?_eq_getElem a7;have h9:k<z.length:=by rw[g6.out];exact a7
   have hy:z[k]?=some z[k]:=List.getElem?_eq_getElem h9;have a0:=g8.out k _ _ hx hy;have hmem:p.q[k]∈p.q:=List.getElem_mem a7;have d9:(p.q.take (k+1)).foldl z2r ⟨p,fun _=>false,[]⟩=z2r ((p.q.take k).foldl z2r ⟨p,fun _=>false,[]⟩) p.q[k]:=by rw[List.take_succ_eq_append_getElem a7,List.foldl_append];rfl
   have e7:=(z9F (p.q.take k) ⟨p,fun _=>false,[]⟩).2;rw[List.length_take,Nat.min_eq_left hk]at e7;have Y:=J6 d9;have a8:=h6.out _ hmem;have a9:=h7.out _ hmem;have e8:=h5.out _ hmem;generalize (p.q.take k).foldl z2r ⟨p,fun _=>false,[]⟩=s at *;have i2:s.left.length+1<=p.q.length:=by simp at e7;omega
   obtain⟨bq,oq,rfl,e9,f4,hcell⟩:=g9.out (by omega)
   have f5:bq≠g:=fun e=>hg (e ▸ e9)
   have hc:∀ j,j<7->∀ u,(akL p.q[k] z[k])[j]?=some u->wr.cell? ⟨bq,oq+k * 7+j,none⟩=some u:=fun j hj u hu=>by
    rw[World.cell?_of_block (w:=w) (a:=⟨bq,oq+k * 7+j,none⟩) (HR.out.A.block bq f4 f5),Nat.add_assoc];exact hcell _ _ ((z4b p.q z k _ _ j hx hy hj).trans hu)
   have e0:=hc 0 (by omega) _ rfl
   have e1:=hc 1 (by omega) _ rfl
   have e2:=hc 2 (by omega) _ rfl
   have e3:=hc 3 (by omega) _ rfl
   have e4:=hc 4 (by omega) _ rfl
   have e5:=hc 5 (by omega) _ rfl
   have e6:=hc 6 (by omega) _ rfl
   rw[Nat.add_zero]at e0;generalize p.q[k]=x at *;generalize z[k]=y at *;obtain⟨y1,y2⟩:=y;dsimp only at a0 e5 e6;obtain⟨⟨T,n1,U,i3,-⟩,⟨V,W,X,i4,-⟩⟩:=id a0;subst i3 i4;obtain⟨x1,f⟩:=x;dsimp only at e8 a8 a9 a0 e0 e1 e2 e3 e4;obtain⟨m,rfl⟩:∃ m:Nat,x1=(m:Int):=⟨x1.toNat,by omega⟩
   have f6:m<2:=by omega
   have j2:(m:Int)<2:=by omega
   have j3:(0:Int)<=(m:Int):=by omega
   rw[Int.toNat_natCast]at a8 a9;have f8:=J6 a0;have b4:=J6 a8;have b5:=J6 a9;have bA:Bl wr (wr.alloc (J5 #[.int .i64 (m:Int),.int .i64 f.k,.int .i64 f.i,.int .i64 f.v,.int .i64 f.n,J1 T n1 U,J1 V W X] 70)):=znw wr _;have K5:=CAt.new 70 wr #[.int .i64 (m:Int),.int .i64 f.k,.int .i64 f.i,.int .i64 f.v,.int .i64 f.n,J1 T n1 U,J1 V W X];clear hc hcell hx hy a0 a8 a9 d9 hmem f4 e9 f5 e8
   go_upto_region 5 with fail
   clear e0 e1 e2 e3 e4 e5 e6;obtain⟨w5,b9⟩:∃ w5,w5=wr.alloc (J5 #[.int .i64 (m:Int),.int .i64 f.k,.int .i64 f.i,.int .i64 f.v,.int .i64 f.n,J1 T n1 U,J1 V W X] 70):=⟨_,rfl⟩;rw[<- b9]at K5 bA;rw[<- b9];clear b9;obtain⟨⟨v5,Q,C5,P5,L,H,M,N⟩,W5,⟨z5,L5⟩,A5,I5⟩:=HR.out;have i8:w.heap.size<wr.heap.size:=W5.lt;have C6:=C5.over bA;have P6:=P5.over bA;have W6:=W5.over bA;have A6:=A5.trans (Alt.of bA);have O6:=Ln.z9k L5.own bA;have j4:=bA.size;have f9:=g5;have k0:w5.cell? ⟨wr.heap.size,0,none⟩=some (.int .i64 (m:Int)):=K5.cell 0;have k1:w5.cell? ⟨wr.heap.size,1,none⟩=some (.int .i64 f.k):=K5.cell 1;have k2:w5.cell? ⟨wr.heap.size,2,none⟩=some (.int .i64 f.i):=K5.cell 2;have k3:w5.cell? ⟨wr.heap.size,3,none⟩=some (.int .i64 f.v):=K5.cell 3;have k4:w5.cell? ⟨wr.heap.size,4,none⟩=some (.int .i64 f.n):=K5.cell 4;have k5:w5.cell? ⟨wr.heap.size,5,none⟩=some (J1 T n1 U):=K5.cell 5;have k6:w5.cell? ⟨wr.heap.size,6,none⟩=some (J1 V W X):=K5.cell 6
   have aW:w5.cell? ⟨w.heap.size,m,none⟩=some (J3 (s.wt m)):=by
    rw[W6.cell m]
    rcases (show m=0∨m=1 by omega) with rfl | rfl <;> rfl
   have a1:=J6 (b4.out s.p v5 Q w5 (J1 T n1 U) (J1 V W X) I5 C6 P6 H)
   have a2:z2r s ((m:Int),f)=if s.wt m=true then { s with left:=s.left ++ [((m:Int),f)] } else if (z1L s.p m f).2=true then { s with p:=(z1L s.p m f).1 } else { s with wt:=fun i=>if i=m then true else s.wt i,left:=s.left ++ [((m:Int),f)] }:=by
    unfold z2r;rw[Int.toNat_natCast]
   have l:=J6 a2;have g0:=J6 (b5.out s.p I5);have g1:=J6 (fun h=>q3Y (p:=s.p) (c:=m) (x:=f) h);have K:=J6 (show _/\_/\_/\_/\_/\_/\_ from⟨C6,P6,W6,A6,O6,K5,I5⟩);have Z:=J6 (show _/\_ from⟨L5.len,L5.ins⟩);have c4:=J6 (show _/\_/\_/\_ from⟨L,H,M,N⟩);clear C5 P5 W5 A5 L5 I5 C6 P6 W6 A6 O6 K5 L H M N a2 HR bA b4 b5;generalize z1L s.p m f=dl at *;obtain⟨p',b'⟩:=dl;dsimp only at l g0 g1 a1;cases a3:s.wt m
   ·rw[a3]at aW;replace l:=J6 (l.out.trans (if_neg (by simp[a3])))
    cases b'
    ·
     replace l:=J6 (l.out.trans (if_neg (by simp)))
     have e:=g1.out rfl;subst e
     go_upto_region 6 with (go_at_call 109;refine a1.out.mono ?_;rintro e B⟨v7,rfl,C7,P7,A7⟩;dsimp only at C7 P7;have R:=J6 (show _/\_/\_ from⟨C7,P7,A7⟩);clear C7 P7 A7;dsimp only)
     have j5:w5.heap.size<=B.heap.size:=R.out.2.2.size
     have C:Hid ((∀ b,New Q w5 0 b->New P w 0 b)/\¬ New Q w5 0 g/\¬ New Q w5 0 w.heap.size/\∀ r,u3.ownBlock=some r->¬ New Q w5 0 r):=by
      obtain⟨L,H,M,N⟩:=c4.out;refine⟨fun b h=>?_,z0I H (by omega),z0I M (by omega),fun r e=>z0I (N r e) (by have:=(World.ownsRow.lt K.out.2.2.2.2.1 r e).2;omega)⟩
      rcases h with⟨h,_⟩ | h
      ·exact L b h
      ·exact .inr (by omega)
     have d:=J6 (show _/\_/\_/\_/\_/\_ from⟨R.out.1,R.out.2.1,R.out.2.2.cat (by omega) K.out.2.2.1,Ln.z1c K.out.2.2.2.2.1 fun r e=>R.out.2.2.block r (World.ownsRow.lt K.out.2.2.2.2.1 r e).2 (by have:=(World.ownsRow.lt K.out.2.2.2.2.1 r e).1;omega),R.out.2.2.cat (b:=wr.heap.size) (by omega) K.out.2.2.2.2.2.1,K.out.2.2.2.1.trans R.out.2.2⟩)
     clear R a1
     have c5:B.cell? ⟨w.heap.size,m,none⟩=some (J3 (s.wt m)):=by
      rw[d.out.2.2.1.cell m]
      rcases (show m=0∨m=1 by omega) with rfl | rfl <;> rfl
     have f7:=d.out.2.2.1.free m;have j0:B.cell? ⟨wr.heap.size,0,none⟩=some (.int .i64 (m:Int)):=d.out.2.2.2.2.1.cell 0;have a4:=d.out.2.2.1.lt;have C8:=d.out.1.other (c:=w.heap.size) (o:=m) (by omega) (J3 true)
     have P8:=d.out.2.1.keep (w':=B.setCell ⟨w.heap.size,m,none⟩ (J3 true)) fun b hb _=>Below.heap_setCell B ⟨w.heap.size,m,none⟩ (J3 true) b (show b≠w.heap.size from fun e=>C.out.2.2.1 (e ▸ hb));have W8:=d.out.2.2.1.set m (J3 true);rw[j2u s.wt f6]at W8;have O8:=Ln.z1c d.out.2.2.2.1 (w':=B.setCell ⟨w.heap.size,m,none⟩ (J3 true)) fun r e=>Below.heap_setCell B ⟨w.heap.size,m,none⟩ (J3 true) r (show r≠w.heap.size by have:=(World.ownsRow.lt d.out.2.2.2.1 r e).1;omega)
     have K8:=d.out.2.2.2.2.1.other (c:=w.heap.size) (o:=m) (by omega) (J3 true)
     have A8:=d.out.2.2.2.2.2.past (b:=w.heap.size) (Nat.le_refl _) m (J3 true);have t:=J6 (show _/\_/\_/\_/\_/\_ from⟨C8,P8,W8,O8,K8,A8⟩);clear C8 P8 W8 O8 K8 A8 k0 k1 k2 k3 k4 k5 k6 aW
     go_upto_region 7 with fail
     clear c5 f7 j0 a4;generalize B.setCell ⟨w.heap.size,m,none⟩ (J3 true)=w8 at *;have k0:w8.cell? ⟨wr.heap.size,0,none⟩=some (.int .i64 (m:Int)):=t.out.2.2.2.2.1.cell 0;have k1:w8.cell? ⟨wr.heap.size,1,none⟩=some (.int .i64 f.k):=t.out.2.2.2.2.1.cell 1;have k2:w8.cell? ⟨wr.heap.size,2,none⟩=some (.int .i64 f.i):=t.out.2.2.2.2.1.cell 2;have k3:w8.cell? ⟨wr.heap.size,3,none⟩=some (.int .i64 f.v):=t.out.2.2.2.2.1.cell 3;have k4:w8.cell? ⟨wr.heap.size,4,none⟩=some (.int .i64 f.n):=t.out.2.2.2.2.1.cell 4;have k5:w8.cell? ⟨wr.heap.size,5,none⟩=some (J1 T n1 U):=t.out.2.2.2.2.1.cell 5;have k6:w8.cell? ⟨wr.heap.size,6,none⟩=some (J1 V W X):=t.out.2.2.2.2.1.cell 6;have i5:w.heap.size<w8.heap.size:=t.out.2.2.1.lt;have a5:=World.ownsRow.alloc t.out.2.2.2.1 (J5 #[.int .i64 (m:Int),.int .i64 f.k,.int .i64 f.i,.int .i64 f.v,.int .i64 f.n,J1 T n1 U,J1 V W X] 70);have c6:=J6 a5;clear a5
     go_upto_region 8 with (at_builtin;refine wpList_append_own_at _ rfl _ _ 56 rfl (w.heap.size+1) 70 i0 (J4 #[.int .i64 0,.int .i64 0,.int .i64 0,.int .i64 0,.int .i64 0,J1 none 0 0,J1 none 0 0]) 7 88 underlying56 hi d0 d1 d2 rfl (by decide) _ _ _ rfl c6.out ⟨w8.heap.size,0,none⟩ 1 1 (akL ((m:Int),f) (J1 T n1 U,J1 V W X)) rfl rfl (q2K w8 ((m:Int),f) (J1 T n1 U,J1 V W X) 70) (by intro u hu;simp[akL]at hu;rcases hu with rfl | rfl | rfl | rfl | rfl | rfl | rfl <;> rfl) (by unfold maxLen;omega) (by omega) (by simp;omega) ?_;intro v9 w9 E F _ a6;have S:=J6 (show _/\_/\_ from⟨E,F,a6⟩);clear E F a6)
     have HN:Hid (QuR Inv P w g { s with wt:=fun i=>if i=m then true else s.wt i,left:=s.left ++ [((m:Int),f)] } v9 w9):=QuR.wait f9 t.out.1 t.out.2.1 C.out.1 C.out.2.1 C.out.2.2.1 C.out.2.2.2 t.out.2.2.1 t.out.2.2.2.1 Z.out.1 Z.out.2 t.out.2.2.2.2.2 K.out.2.2.2.2.2.2 f8.out S.out.1 S.out.2.1 S.out.2.2
     clear k0 k1 k2 k3 k4 k5 k6;go_wp2
     first | exact⟨⟨k+1,by omega,by go_num,by rw[Y.out,l.out];exact HN.out⟩,by simp[intOf];omega⟩ | ((repeat apply Exists.intro);exact⟨⟨k+1,by omega,by go_num,by rw[Y.out,l.out];exact HN.out⟩,rfl⟩)
    ·replace l:=J6 (l.out.trans (if_pos rfl))
     go_upto_region 8 with (go_at_call 109;refine a1.out.mono ?_;rintro e B⟨v7,rfl,C7,P7,A7⟩;dsimp only at C7 P7;have d:=J6 (show _/\_/\_ from⟨C7,P7,A7⟩);clear C7 P7 A7;dsimp only)
     clear k0 k1 k2 k3 k4 k5 k6 aW
     have HN:Hid (QuR Inv P w g { s with p:=p' } u3 B):=by
      obtain⟨C7,P7,A7⟩:=d.out;obtain⟨L,H,M,N⟩:=c4.out;refine⟨⟨v7,New Q w5 0,C7,P7,fun b h=>?_,z0I H (by omega),z0I M (by omega),fun r e=>z0I (N r e) (by have:=(World.ownsRow.lt K.out.2.2.2.2.1 r e).2;omega)⟩,A7.cat (by omega) K.out.2.2.1,⟨z5,Z.out.1,Ln.z1c K.out.2.2.2.2.1 fun r e=>A7.block r (World.ownsRow.lt K.out.2.2.2.2.1 r e).2 (by have:=(World.ownsRow.lt K.out.2.2.2.2.1 r e).1;omega),Z.out.2⟩,K.out.2.2.2.1.trans A7,g0.out⟩
      rcases h with⟨h,_⟩ | h
      ·exact L b h
      ·exact .inr (by omega)
     go_wp2
     first | exact⟨⟨k+1,by omega,by go_num,by rw[Y.out,l.out];exact HN.out⟩,by simp[intOf];omega⟩ | ((repeat apply Exists.intro);exact⟨⟨k+1,by omega,by go_num,by rw[Y.out,l.out];exact HN.out⟩,rfl⟩)
   ·have b6:(fun i=>if i=m then true else s.wt i)=s.wt:=funext fun i=>by
     by_cases e:i=m
     ·rw[if_pos e,e,a3]
     ·rw[if_neg e]
    rw[a3]at aW;replace l:=J6 ((l.out.trans (if_pos a3)).trans (by rw[b6]:_=({ s with wt:=fun i=>if i=m then true else s.wt i,left:=s.left ++ [((m:Int),f)] }:QS)))
    clear b6
    go_upto_region 6 with fail
    obtain⟨B,c7⟩:∃ B,B=w5:=⟨_,rfl⟩;have C:=c4;have d:Hid (CAt 58 B g (prC s.p v5)/\PIn Q B s.p v5/\CAt 82 B w.heap.size #[J3 (s.wt 0),J3 (s.wt 1)]/\B.ownsRow (w.heap.size+1) 70 7 u3 s.left.length (quL s.left z5)/\CAt 70 B wr.heap.size #[.int .i64 (m:Int),.int .i64 f.k,.int .i64 f.i,.int .i64 f.v,.int .i64 f.n,J1 T n1 U,J1 V W X]/\Alt g w B):=by rw[c7];exact⟨K.out.1,K.out.2.1,K.out.2.2.1,K.out.2.2.2.2.1,K.out.2.2.2.2.2.1,K.out.2.2.2.1⟩
    rw[<- c7];clear c7 a1
    have c5:B.cell? ⟨w.heap.size,m,none⟩=some (J3 (s.wt m)):=by
     rw[d.out.2.2.1.cell m]
     rcases (show m=0∨m=1 by omega) with rfl | rfl <;> rfl
    have f7:=d.out.2.2.1.free m;have j0:B.cell? ⟨wr.heap.size,0,none⟩=some (.int .i64 (m:Int)):=d.out.2.2.2.2.1.cell 0;have a4:=d.out.2.2.1.lt;have C8:=d.out.1.other (c:=w.heap.size) (o:=m) (by omega) (J3 true)
    have P8:=d.out.2.1.keep (w':=B.setCell ⟨w.heap.size,m,none⟩ (J3 true)) fun b hb _=>Below.heap_setCell B ⟨w.heap.size,m,none⟩ (J3 true) b (show b≠w.heap.size from fun e=>C.out.2.2.1 (e ▸ hb));have W8:=d.out.2.2.1.set m (J3 true);rw[j2u s.wt f6]at W8;have O8:=Ln.z1c d.out.2.2.2.1 (w':=B.setCell ⟨w.heap.size,m,none⟩ (J3 true)) fun r e=>Below.heap_setCell B ⟨w.heap.size,m,none⟩ (J3 true) r (show r≠w.heap.size by have:=(World.ownsRow.lt d.out.2.2.2.1 r e).1;omega)
    have K8:=d.out.2.2.2.2.1.other (c:=w.heap.size) (o:=m) (by omega) (J3 true)
    have A8:=d.out.2.2.2.2.2.past (b:=w.heap.size) (Nat.le_refl _) m (J3 true);have t:=J6 (show _/\_/\_/\_/\_/\_ from⟨C8,P8,W8,O8,K8,A8⟩);clear C8 P8 W8 O8 K8 A8 k0 k1 k2 k3 k4 k5 k6 aW
    go_upto_region 7 with fail
    clear c5 f7 j0 a4;generalize B.setCell ⟨w.heap.size,m,none⟩ (J3 true)=w8 at *;have k0:w8.cell? ⟨wr.heap.size,0,none⟩=some (.int .i64 (m:Int)):=t.out.2.2.2.2.1.cell 0;have k1:w8.cell? ⟨wr.heap.size,1,none⟩=some (.int .i64 f.k):=t.out.2.2.2.2.1.cell 1;have k2:w8.cell? ⟨wr.heap.size,2,none⟩=some (.int .i64 f.i):=t.out.2.2.2.2.1.cell 2;have k3:w8.cell? ⟨wr.heap.size,3,none⟩=some (.int .i64 f.v):=t.out.2.2.2.2.1.cell 3;have k4:w8.cell? ⟨wr.heap.size,4,none⟩=some (.int .i64 f.n):=t.out.2.2.2.2.1.cell 4;have k5:w8.cell? ⟨wr.heap.size,5,none⟩=some (J1 T n1 U):=t.out.2.2.2.2.1.cell 5;have k6:w8.cell? ⟨wr.heap.size,6,none⟩=some (J1 V W X):=t.out.2.2.2.2.1.cell 6;have i5:w.heap.size<w8.heap.size:=t.out.2.2.1.lt;have a5:=World.ownsRow.alloc t.out.2.2.2.1 (J5 #[.int .i64 (m:Int),.int .i64 f.k,.int .i64 f.i,.int .i64 f.v,.int .i64 f.n,J1 T n1 U,J1 V W X] 70);have c6:=J6 a5;clear a5
    go_upto_region 8 with (at_builtin;refine wpList_append_own_at _ rfl _ _ 56 rfl (w.heap.size+1) 70 i0 (J4 #[.int .i64 0,.int .i64 0,.int .i64 0,.int .i64 0,.int .i64 0,J1 none 0 0,J1 none 0 0]) 7 88 underlying56 hi d0 d1 d2 rfl (by decide) _ _ _ rfl c6.out ⟨w8.heap.size,0,none⟩ 1 1 (akL ((m:Int),f) (J1 T n1 U,J1 V W X)) rfl rfl (q2K w8 ((m:Int),f) (J1 T n1 U,J1 V W X) 70) (by intro u hu;simp[akL]at hu;rcases hu with rfl | rfl | rfl | rfl | rfl | rfl | rfl <;> rfl) (by unfold maxLen;omega) (by omega) (by simp;omega) ?_;intro v9 w9 E F _ a6;have S:=J6 (show _/\_/\_ from⟨E,F,a6⟩);clear E F a6)
    have HN:Hid (QuR Inv P w g { s with wt:=fun i=>if i=m then true else s.wt i,left:=s.left ++ [((m:Int),f)] } v9 w9):=QuR.wait f9 t.out.1 t.out.2.1 C.out.1 C.out.2.1 C.out.2.2.1 C.out.2.2.2 t.out.2.2.1 t.out.2.2.2.1 Z.out.1 Z.out.2 t.out.2.2.2.2.2 K.out.2.2.2.2.2.2 f8.out S.out.1 S.out.2.1 S.out.2.2
    clear k0 k1 k2 k3 k4 k5 k6;go_wp2
    first | exact⟨⟨k+1,by omega,by go_num,by rw[Y.out,l.out];exact HN.out⟩,by simp[intOf];omega⟩ | ((repeat apply Exists.intro);exact⟨⟨k+1,by omega,by go_num,by rw[Y.out,l.out];exact HN.out⟩,rfl⟩)
  ·obtain rfl:k=p.q.length:=by omega
   rw[List.take_length,<- d7.out]at HR;have c8:=(z9F p.q ⟨p,fun _=>false,[]⟩).2;rw[<- d7.out]at c8;have b7:G.left.length<=p.q.length:=by simpa using c8
   have i6:=J6 b7;clear c8 b7;obtain⟨⟨v5,Q,C5,P5,L,H,M,N⟩,W5,⟨z5,L5⟩,A5,I5⟩:=HR.out;obtain⟨Al,Cl,el⟩:=Ln.z3k L5.own;subst el;have d8:wr.cell? ⟨g,96,none⟩=some v5.q:=C5.cell 96;have j6:=C5.free 96;have i9:=C5.lt;have C6:=C5.set 96 (J1 Al G.left.length Cl);rw[j7O G.p v5 G.left]at C6;have A6:=A5.set 96 (J1 Al G.left.length Cl);have k6:∀ b,b≠g->(wr.setCell ⟨g,96,none⟩ (J1 Al G.left.length Cl)).heap[b]?=wr.heap[b]?:=fun b hb=>Below.heap_setCell wr ⟨g,96,none⟩ _ b hb
   have N6:PIn (New P w 0) (wr.setCell ⟨g,96,none⟩ (J1 Al G.left.length Cl)) { G.p with q:=G.left } { v5 with q:=J1 Al G.left.length Cl }:=by
    have n5:=(P5.keep (w':=wr.setCell ⟨g,96,none⟩ (J1 Al G.left.length Cl)) fun b hb _=>k6 b fun e=>H (e ▸ hb)).mono (P':=New P w 0) fun b _ hb=>L b hb;refine⟨n5.ws,n5.set,n5.lk,⟨z5,L5.len,?_,fun i x y hx hy=>?_⟩⟩
    ·have o6:=Ln.z1c L5.own (w':=wr.setCell ⟨g,96,none⟩ (J1 Al G.left.length Cl)) fun r e=>k6 r (by have:=(World.ownsRow.lt L5.own r e).1;omega)
     exact (Rep.own (bts:=80) o6 (by have:=i6.out;omega)).mono fun b _ hb=>.inr (by omega)
    ·have h2:=L5.ins i x y hx hy;have key:∀ {u:Value} {sz bts:Nat} {cs:List Value},Rep P w u sz bts cs->Rep (New P w 0) (wr.setCell ⟨g,96,none⟩ (J1 Al G.left.length Cl)) u sz bts cs:=fun h=>(A6.rep (P:=fun b=>P b/\b<w.heap.size) (fun h=>hg h.1) (h.mono fun b hl hb=>⟨hb,hl⟩)).mono fun b _ hb=>.inl hb;exact⟨key h2.1,key h2.2⟩
   have HZ:=J6 (show _/\_/\_ from⟨C6,N6,A6⟩);have g3:=h8;clear C5 P5 L H M N W5 L5 A5 I5 C6 A6 k6 N6 HR;go_wp2;go_end0;rw[g3.out];exact⟨_,rfl,HZ.out.1,HZ.out.2.1,HZ.out.2.2⟩
end Pv
end Go.Proofs.YtddlhnoedldidaaGreat
