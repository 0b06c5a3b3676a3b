/- Parts of the proof. -/
import Derived.Test.YtddlhnoedldidaaGreatGL
import Derived.Test.YtddlhnoedldidaaGreatGK28
set_option maxRecDepth 100000
set_option maxHeartbeats 16000000
namespace Go.Proofs.YtddlhnoedldidaaGreat
open Go.Proofs.Tryz
open Value renaming int->J,slice->J1,pointer->J2,bool->J3,agg->J4
open IntKind renaming i64->I
open Obj renaming cells->J5
namespace Pv
open Go.RowKit Wd
theorem _root_.Go.Proofs.YtddlhnoedldidaaGreat.z2C.hei{B:Nat}{w:World}{g C:Nat}{W:List Wt}(h:z2C B w (some ⟨g,0,none⟩) C W){k:Nat}{x:Wt}(a:W[k]?=some x):w.cell? ⟨g,k*8+4,none⟩=some (J I x.hei):=by
 have:=World.ownsRow.cells h (g:=g) rfl (k*8+4) (J I x.hei) (z4I W k x 4 a (by omega))
 rwa [Addr.add_lit,Nat.zero_add]at this
theorem Alt.far{g a:Nat}{w w':World}(h:Alt g w w')(d:w.heap.size<=a)(o:Nat)(v:Value):Alt g w (w'.setCell ⟨a,o,none⟩ v):=
 ⟨h.os,h.tape,h.output,(by simp[World.setCell];exact h.size),λk b c=>(Below.heap_setCell _ _ _ _ (show k≠a by omega)).trans (h.block k b c)⟩
structure HRl(p:Pr)(v:PrV)(F:Wt->Wt)(w:World)(g:Nat)(A:Option Addr)(C k:Nat)(wl:World):Prop where
 own:z2C w.heap.size wl A C ((p.s.W.take k).map F++p.s.W.drop k)
 S:CAt 58 wl g (prC p { v with ws:=J1 A p.s.W.length C})
 alt:Alt g w wl
theorem q4F(f:Wt->Bool){W:List Wt}{k:Nat}{x:Wt}(h:W[k]?=some x):(W.take (k+1)).any f=((W.take k).any f || f x):=by
 rw[z1z h,List.any_append]
 simp
theorem q4T(p:Pr)(v:PrV)(u:Value):(prC p v).setIfInBounds 63 u=prC p { v with ws:=u}:=rfl
theorem j7w(g:Nat)(p:Pr)(v:PrV)(P:Nat->Prop)(w:World)(m:CAt 58 w g (prC p v))(hp:Rep P w v.ws 8 64 (wsL p.s.W))(h0:0<=p.h)(h1:p.h<=1099511627776) :
  Calls prog 82 #[J2 (some ⟨g,0,none⟩),J I 0] w λe w'=>∃A C,e=.returned (J3 (p.s.W.any (λx=>decide (x.hei=p.h+1))))/\CAt 58 w' g (prC p { v with ws:=J1 A p.s.W.length C})/\z2C w.heap.size w' A C (p.s.W.map (z0V 0 (p.h+1)))/\Alt g w w':=by
 obtain⟨ao,c,sb,so,q,N,-,-⟩:=hp.q0q;have X:=N.len;have r:=J6 (z7S g p v w m h0 h1);have t:=z4e ao p.s.W c sb so w N;have n:w.cell? ⟨g,63,none⟩=some (J1 ao p.s.W.length c):=by rw[<-q];exact m.cell 63
 have d:=m.free 63;have a0:=m.lt;have Y:=J6 m;clear m hp N q;generalize Q:p.h+1=hh at *;clear Q
 go_enter func82,ntmps82
 go_upto_region 3 with(first
  | (go_at_call 70;refine r.out.mono ?_;rintro e w'⟨rfl,rfl⟩)
  | (go_at_call 38;refine t.mono ?_;rintro e w1⟨A,C,rfl,o,f⟩;have u:=Y.out.over f;have a1:=u.lt;clear n;have n:w1.cell? ⟨g,63,none⟩=some v.ws:=u.cell 63;clear d;have d:=u.free 63;have j:=J6 o;have y:=J6 f;clear f o))
 have z:=u.set 63 (J1 A p.s.W.length C);rw[q4T]at z;have a:=(But.refl g w1).set 63 (J1 A p.s.W.length C);have Z:Alt g w (w1.setCell ⟨g,63,none⟩ (J1 A p.s.W.length C)):=(Alt.of (g:=g) y.out).set 63 _;have B:Hid (z2C w.heap.size (w1.setCell ⟨g,63,none⟩ (J1 A p.s.W.length C)) A C p.s.W):=z1v j.out λk hk=>a.block _ (by have:=(World.ownsRow.lt j.out k hk).1;omega)
 generalize w1.setCell ⟨g,63,none⟩ (J1 A p.s.W.length C)=w2 at *;clear n d u j y a t r Y;have n:w2.cell? ⟨g,63,none⟩=some (J1 A p.s.W.length C):=z.cell 63;have a2:g<w2.heap.size:=z.lt;have D:Hid (HRl p v (z0V 0 hh) w g A C 0 w2):=⟨B.out,z,Z⟩;clear z B Z
 go_upto_region 4 with fail
 go_loopw [27,6] (λi fo wl=>∃(k:Nat),k<=p.s.W.length/\i=J I (k:Int)/\fo=J3 ((p.s.W.take k).any (λx=>decide (x.hei=hh)))/\Hid (HRl p v (z0V 0 hh) w g A C k wl)) (λi _ _=>p.s.W.length - (intOf i).toNat)
 case atStart=>exact⟨0,Nat.zero_le _,rfl,rfl,D⟩
 case round =>
  obtain⟨k,hk,rfl,rfl,HR⟩:=hrel;clear D n;have a3:=HR.out.S.lt;have n:wr.cell? ⟨g,63,none⟩=some (J1 A p.s.W.length C):=HR.out.S.cell 63
  by_cases E:k<p.s.W.length
  ·obtain⟨x,R,_⟩:=drop_at E;obtain⟨e1,L,e3⟩:=z7t (z0V 0 hh) R;obtain⟨M,rfl,a4,a5,F⟩:=HR.out.own.holds (by omega)
   obtain⟨c6,c7,f6,f7⟩:=F k x L;have c4:=HR.out.own.hei L;have G:=HR.out.own.cap;rw[e3]at G;have H:=J6 e1;have K:=J6 L;have ha:=q4F (λx=>decide (x.hei=hh)) R;have HA:=J6 ha;generalize (p.s.W.take k).any (λx=>decide (x.hei=hh))=bk at *;clear F e1 L R ha
   by_cases b:x.hei=hh
   ·have T:Hid (z0V 0 hh x={ x with h0:=hh}):=by show _=_;unfold z0V;simp[b]
    have l:Hid ((p.s.W.take (k+1)).any (λx=>decide (x.hei=hh))=true):=by show _=_;rw[HA.out];simp[b]
    have HN:Hid (HRl p v (z0V 0 hh) w g (some ⟨M,0,none⟩) C (k+1) (wr.setCell ⟨M,k*8+6,none⟩ (J I hh))):=by
     have a:=(But.refl M wr).set (k*8+6) (J I hh);exact⟨by rw[H.out,T.out];exact HR.out.own.put K.out _ 6 _ (by omega) rfl,(a.block g (by have:=HR.out.alt.size;omega)).trans HR.out.S,HR.out.alt.far (by omega) _ _⟩
    go_wp2;exact⟨⟨k+1,by omega,by go_num,by rw[l.out],HN⟩,by simp[intOf];omega⟩
   ·have T:Hid (z0V 0 hh x=x):=by show _=_;unfold z0V;simp[b]
    have l:Hid ((p.s.W.take (k+1)).any (λx=>decide (x.hei=hh))=bk):=by show _=_;rw[HA.out];simp[b]
    have U:Hid (HRl p v (z0V 0 hh) w g (some ⟨M,0,none⟩) C (k+1) wr):=⟨by rw[H.out,T.out,z6u K.out];exact HR.out.own,HR.out.S,HR.out.alt⟩
    go_wp2;exact⟨⟨k+1,by omega,by go_num,by rw[l.out],U⟩,by simp[intOf];omega⟩
  ·obtain rfl:k=p.s.W.length:=by omega
   have o:=HR.out.own;rw[List.take_length,List.drop_length,List.append_nil]at o;have V:=J6 (show _/\_/\_ from⟨o,HR.out.S,HR.out.alt⟩);rw[List.take_length];clear o HR;go_wp2;go_ret;exact⟨A,C,rfl,V.out.2.1,V.out.1,V.out.2.2⟩
theorem j6v(g:Nat)(p:Pr)(v:PrV)(P:Nat->Prop)(w:World)(m:CAt 58 w g (prC p v))(hp:Rep P w v.ws 8 64 (wsL p.s.W))(h0:0<=p.h)(h1:p.h<=1099511627776) :
  Calls prog 82 #[J2 (some ⟨g,0,none⟩),J I 1] w λe w'=>∃A C,e=.returned (J3 (p.s.W.any (λx=>decide (x.hei=p.h+1))))/\CAt 58 w' g (prC p { v with ws:=J1 A p.s.W.length C})/\z2C w.heap.size w' A C (p.s.W.map (z0V 1 (p.h+1)))/\Alt g w w':=by
 obtain⟨ao,c,sb,so,q,N,-,-⟩:=hp.q0q;have X:=N.len;have r:=J6 (z7S g p v w m h0 h1);have t:=z4e ao p.s.W c sb so w N;have n:w.cell? ⟨g,63,none⟩=some (J1 ao p.s.W.length c):=by rw[<-q];exact m.cell 63
 have d:=m.free 63;have a0:=m.lt;have Y:=J6 m;clear m hp N q;generalize Q:p.h+1=hh at *;clear Q
 go_enter func82,ntmps82
 go_upto_region 3 with(first
  | (go_at_call 70;refine r.out.mono ?_;rintro e w'⟨rfl,rfl⟩)
  | (go_at_call 38;refine t.mono ?_;rintro e w1⟨A,C,rfl,o,f⟩;have u:=Y.out.over f;have a1:=u.lt;clear n;have n:w1.cell? ⟨g,63,none⟩=some v.ws:=u.cell 63;clear d;have d:=u.free 63;have j:=J6 o;have y:=J6 f;clear f o))
 have z:=u.set 63 (J1 A p.s.W.length C);rw[q4T]at z;have a:=(But.refl g w1).set 63 (J1 A p.s.W.length C);have Z:Alt g w (w1.setCell ⟨g,63,none⟩ (J1 A p.s.W.length C)):=(Alt.of (g:=g) y.out).set 63 _;have B:Hid (z2C w.heap.size (w1.setCell ⟨g,63,none⟩ (J1 A p.s.W.length C)) A C p.s.W):=z1v j.out λk hk=>a.block _ (by have:=(World.ownsRow.lt j.out k hk).1;omega)
 generalize w1.setCell ⟨g,63,none⟩ (J1 A p.s.W.length C)=w2 at *;clear n d u j y a t r Y;have n:w2.cell? ⟨g,63,none⟩=some (J1 A p.s.W.length C):=z.cell 63;have a2:g<w2.heap.size:=z.lt;have D:Hid (HRl p v (z0V 1 hh) w g A C 0 w2):=⟨B.out,z,Z⟩;clear z B Z
 go_upto_region 4 with fail
 go_loopw [27,6] (λi fo wl=>∃(k:Nat),k<=p.s.W.length/\i=J I (k:Int)/\fo=J3 ((p.s.W.take k).any (λx=>decide (x.hei=hh)))/\Hid (HRl p v (z0V 1 hh) w g A C k wl)) (λi _ _=>p.s.W.length - (intOf i).toNat)
 case atStart=>exact⟨0,Nat.zero_le _,rfl,rfl,D⟩
 case round =>
  obtain⟨k,hk,rfl,rfl,HR⟩:=hrel;clear D n;have a3:=HR.out.S.lt;have n:wr.cell? ⟨g,63,none⟩=some (J1 A p.s.W.length C):=HR.out.S.cell 63
  by_cases E:k<p.s.W.length
  ·obtain⟨x,R,_⟩:=drop_at E;obtain⟨e1,L,e3⟩:=z7t (z0V 1 hh) R;obtain⟨M,rfl,a4,a5,F⟩:=HR.out.own.holds (by omega)
   obtain⟨c6,c7,f6,f7⟩:=F k x L;have c4:=HR.out.own.hei L;have G:=HR.out.own.cap;rw[e3]at G;have H:=J6 e1;have K:=J6 L;have ha:=q4F (λx=>decide (x.hei=hh)) R;have HA:=J6 ha;generalize (p.s.W.take k).any (λx=>decide (x.hei=hh))=bk at *;clear F e1 L R ha
   by_cases b:x.hei=hh
   ·have T:Hid (z0V 1 hh x={ x with h1:=hh}):=by show _=_;unfold z0V;simp[b]
    have l:Hid ((p.s.W.take (k+1)).any (λx=>decide (x.hei=hh))=true):=by show _=_;rw[HA.out];simp[b]
    have HN:Hid (HRl p v (z0V 1 hh) w g (some ⟨M,0,none⟩) C (k+1) (wr.setCell ⟨M,k*8+7,none⟩ (J I hh))):=by
     have a:=(But.refl M wr).set (k*8+7) (J I hh);exact⟨by rw[H.out,T.out];exact HR.out.own.put K.out _ 7 _ (by omega) rfl,(a.block g (by have:=HR.out.alt.size;omega)).trans HR.out.S,HR.out.alt.far (by omega) _ _⟩
    go_wp2;exact⟨⟨k+1,by omega,by go_num,by rw[l.out],HN⟩,by simp[intOf];omega⟩
   ·have T:Hid (z0V 1 hh x=x):=by show _=_;unfold z0V;simp[b]
    have l:Hid ((p.s.W.take (k+1)).any (λx=>decide (x.hei=hh))=bk):=by show _=_;rw[HA.out];simp[b]
    have U:Hid (HRl p v (z0V 1 hh) w g (some ⟨M,0,none⟩) C (k+1) wr):=⟨by rw[H.out,T.out,z6u K.out];exact HR.out.own,HR.out.S,HR.out.alt⟩
    go_wp2;exact⟨⟨k+1,by omega,by go_num,by rw[l.out],U⟩,by simp[intOf];omega⟩
  ·obtain rfl:k=p.s.W.length:=by omega
   have o:=HR.out.own;rw[List.take_length,List.drop_length,List.append_nil]at o;have V:=J6 (show _/\_/\_ from⟨o,HR.out.S,HR.out.alt⟩);rw[List.take_length];clear o HR;go_wp2;go_ret;exact⟨A,C,rfl,V.out.2.1,V.out.1,V.out.2.2⟩
theorem q8p(g:Nat)(p:Pr)(v:PrV)(P:Nat->Prop)(w:World)(c:Nat)(hc:c<2)(k:CAt 58 w g (prC p v))(hp:Rep P w v.ws 8 64 (wsL p.s.W))(h0:0<=p.h)(h1:p.h<=1099511627776) :
  Calls prog 82 #[J2 (some ⟨g,0,none⟩),J I (c:Int)] w λe w'=>∃u,e=.returned (J3 (p.s.W.any (λx=>decide (x.hei=p.h+1))))/\CAt 58 w' g (prC { p with s:={ p.s with W:=p.s.W.map (z0V c (p.h+1))}} { v with ws:=u})/\Rep (λb=>w.heap.size<=b) w' u 8 64 (wsL (p.s.W.map (z0V c (p.h+1))))/\Alt g w w':=by
 have d:(p.s.W.map (z0V c (p.h+1))).length=p.s.W.length:=List.length_map _;have a:p.s.W.length*64<=140737488351232:=by obtain⟨_,_,_,_,_,l,-,-⟩:=hp.q0q;exact l.len
 match c,hc with
 | 0,_ =>
  refine(j7w g p v P w k hp h0 h1).mono ?_;rintro e w'⟨A,C,rfl,f,i,j⟩;have:=z2C.rep i (by rw[d];exact a)
  rw[d]at this;exact⟨_,rfl,f,this,j⟩
 | 1,_ =>
  refine(j6v g p v P w k hp h0 h1).mono ?_;rintro e w'⟨A,C,rfl,f,i,j⟩;have:=z2C.rep i (by rw[d];exact a)
  rw[d]at this;exact⟨_,rfl,f,this,j⟩
end Pv
namespace Kc
open Go.RowKit Pv
structure z7W(P:Nat->Prop)(B:Nat)(o:Option Nat)(w:World)(g:Nat)(c:Cs)(v:CsV):Prop where
 cat:CAt 75 w g (csC c v)
 set:Rep P w v.set 2 16 (pwC c.set)
 pd:z7Z P w v.pd c.pd
 rp:RR P B o w v.rp c.rp
 said:z0U P w v.said 1 16 (txC c.out.S)
 due:z0U P w v.due 1 8 (inC c.out.D)
 notg:¬ P g
 noto:∀r,o=some r->¬ P r/\r≠g
 base:B<=w.heap.size
structure z9h(g:Nat)(o:Option Nat)(w w':World):Prop where
 os:w'.os=w.os
 tape:w'.tape=w.tape
 output:w'.output=w.output
 size:w.heap.size<=w'.heap.size
 block:∀k,k<w.heap.size->k≠g->some k≠o->w'.heap[k]?=w.heap[k]?
theorem z9h.of{g:Nat}{o:Option Nat}{w w':World}(h:Alt g w w'):z9h g o w w':=⟨h.os,h.tape,h.output,h.size,λk a b _=>h.block k a b⟩
theorem z9h.trans{g:Nat}{o a:Option Nat}{w w1 b:World}(h:z9h g o w w1)(k:z9h g a w1 b)(j:a=o∨∃r,a=some r/\w.heap.size<=r):z9h g o w b:=
 ⟨k.os.trans h.os,k.tape.trans h.tape,k.output.trans h.output,Nat.le_trans h.size k.size,λi c d f=>(k.block i (Nat.lt_of_lt_of_le c h.size) d (by
  rcases j with rfl|⟨r,rfl,l⟩
  ·exact f
  ·intro e;cases e;omega)).trans (h.block i c d f)⟩
theorem z9h.set{g:Nat}{o:Option Nat}{w w':World}(h:z9h g o w w')(k:Nat)(v:Value):z9h g o w (w'.setCell ⟨g,k,none⟩ v):=
 ⟨h.os,h.tape,h.output,(by simp[World.setCell];exact h.size),λi b a c=>(Below.heap_setCell _ _ _ _ a).trans (h.block i b a c)⟩
theorem z7W.later{P:Nat->Prop}{B:Nat}{o:Option Nat}{w w':World}{g:Nat}{c:Cs}{v:CsV}(h:z7W P B o w g c v)(hb:Bl w w'):z7W P B o w' g c v:=
 ⟨h.cat.over hb,h.set.over hb,h.pd.over hb,h.rp.keep (λb _ a=>hb.block b a) (λb e=>hb.block b (h.rp.lt e).2),h.said.over hb,h.due.over hb,h.notg,h.noto,Nat.le_trans h.base hb.size⟩
theorem z7W.put{P:Nat->Prop}{B:Nat}{o:Option Nat}{w:World}{g:Nat}{c:Cs}{v:CsV}(h:z7W P B o w g c v)(k:Nat)(x:Value)(a:Cs)(e:(csC c v).setIfInBounds k x=csC a v)(i:a.set=c.set)(j:a.pd=c.pd)(l:a.rp=c.rp)(f:a.out=c.out):z7W P B o (w.setCell ⟨g,k,none⟩ x) g a v:=by
 have d:∀b,P b->b<w.heap.size->(w.setCell ⟨g,k,none⟩ x).heap[b]?=w.heap[b]?:=λb hb _=>Below.heap_setCell w ⟨g,k,none⟩ x b (show b≠g from λe=>h.notg (by rw[<-e];exact hb))
 refine⟨by have:=h.cat.set k x;rwa [e]at this,by rw[i];exact h.set.keep d,by rw[j];exact h.pd.keep d,by rw[l];exact h.rp.keep d (λb m=>Below.heap_setCell w ⟨g,k,none⟩ x b (h.noto b m).2),by rw[f];exact h.said.keep d,by rw[f];exact h.due.keep d,h.notg,h.noto,by simpa [World.setCell] using h.base⟩
theorem z7W.app{P:Nat->Prop}{B:Nat}{o:Option Nat}{w d:World}{g:Nat}{c:Cs}{v:CsV}{r:Nat}{u:Value}{x:Int×Int}(h:z7W P B o w g c v)(q:RR P B (some r) d u (c.rp++[x]))(l:w.grownBy d o)(f:o=some r∨r=w.heap.size):z7W (λb=>P b/\b≠r) B (some r) (d.setCell ⟨g,7,none⟩ u) g { c with rp:=c.rp++[x]} { v with rp:=u}:=by
 have m:=h.cat.lt;have i:∀b,o=some b->b≠g:=λb e=>(h.noto b e).2;have n:some g≠o:=λe=>i g e.symm rfl
 have j:r≠g:=by
  rcases f with e|e
  ·exact i r e
  ·omega
 have k0:∀b,P b->b<w.heap.size->b≠r:=λb hb a e=>by
  rcases f with p|p
  ·exact(h.noto r p).1 (e ▸ hb)
  ·omega
 have k1:∀b,(P b/\b≠r)->b<w.heap.size->(d.setCell ⟨g,7,none⟩ u).heap[b]?=w.heap[b]?:=λb hb a =>
  (Below.heap_setCell d ⟨g,7,none⟩ u b (show b≠g from λe=>h.notg (e ▸ hb.1))).trans (l.block b a λe=>(h.noto b e.symm).1 hb.1)
 have s:CAt 75 d g (csC c v):=(l.block g m n).trans h.cat;have k:=s.set 7 u;rw[q7C c v (c.rp++[x])]at k;refine⟨k,((h.set.mono λb a hb=>⟨hb,k0 b hb a⟩).keep k1),((h.pd.mono λb a hb=>⟨hb,k0 b hb a⟩).keep k1),?_,((h.said.mono λb a hb=>⟨hb,k0 b hb a⟩).keep k1),((h.due.mono λb a hb=>⟨hb,k0 b hb a⟩).keep k1),λe=>h.notg e.1,λb e=>?_,?_⟩
 ·have:=q.keep (w':=d.setCell ⟨g,7,none⟩ u) (λb hb _=>Below.heap_setCell d ⟨g,7,none⟩ u b (show b≠g from λe=>h.notg (e ▸ hb))) (λb e=>by cases e;exact Below.heap_setCell d ⟨g,7,none⟩ u r j)
  rcases this with⟨e,-⟩|e
  ·cases e
  ·exact .inr e
 ·cases e;exact⟨λh=>h.2 rfl,j⟩
 ·have:=h.base;have:=l.size
  simp[World.setCell]
  omega
theorem z9h.grown{g:Nat}{o:Option Nat}{w b c:World}(h:z9h g o w b)(a:b.grownBy c o):z9h g o w c:=
 ⟨a.os.trans h.os,a.tape.trans h.tape,a.output.trans h.output,Nat.le_trans h.size a.size,λk d f e=>(a.block k (Nat.lt_of_lt_of_le d h.size) e).trans (h.block k d f e)⟩
theorem z7W.mono{P P':Nat->Prop}{B:Nat}{o:Option Nat}{w:World}{g:Nat}{c:Cs}{v:CsV}(h:z7W P B o w g c v)(hp:∀b,b<w.heap.size->P b->P' b)(a:¬ P' g)(d:∀r,o=some r->¬ P' r):z7W P' B o w g c v:=by
 refine⟨h.cat,h.set.mono hp,h.pd.mono hp,?_,h.said.mono hp,h.due.mono hp,a,λr e=>⟨d r e,(h.noto r e).2⟩,h.base⟩
 rcases h.rp with⟨e,hA,hr⟩|e
 ·exact .inl ⟨e,hA,hr.mono hp⟩
 ·exact .inr e
theorem z7W.j9k{P:Nat->Prop}{B:Nat}{o:Option Nat}{w:World}{g:Nat}{c:Cs}{v:CsV}(h:z7W P B o w g c v)(u:Value)(l:List (Int×Int))(d:Rep P w u 2 16 (pwC l)):z7W P B o (w.setCell ⟨g,5,none⟩ u) g { c with set:=l} { v with set:=u}:=by
 have a:∀b,P b->b<w.heap.size->(w.setCell ⟨g,5,none⟩ u).heap[b]?=w.heap[b]?:=λb hb _=>Below.heap_setCell w ⟨g,5,none⟩ u b (show b≠g from λe=>h.notg (by rw[<-e];exact hb))
 refine⟨by have:=h.cat.set 5 u;rwa [set_set c v l]at this,d.keep a,h.pd.keep a,h.rp.keep a (λb f=>Below.heap_setCell w ⟨g,5,none⟩ u b (h.noto b f).2),h.said.keep a,h.due.keep a,h.notg,h.noto,by simpa [World.setCell] using h.base⟩
theorem j6n(w:World)(x:Int×Int)(j:Nat)(u:Value)(a:([J I x.1,J I x.2]:List Value)[j]?=some u):(w.alloc (J5 #[J I x.1,J I x.2] 79)).drew.cell? ⟨w.heap.size,j,none⟩=some u:=by
 have h:=((CAt.new 79 w #[J I x.1,J I x.2]).over (Below.refl _ _).drew).cell j;rw[h]
 simpa using a
def j5t(P:Nat->Prop)(B:Nat)(o:Option Nat)(w:World)(g:Nat)(c:Cs)(pv:Value)(e:Ending)(w':World):Prop:=
 ∃v' a P',e=.returned (.tuple #[])/\z7W P' B a w' g c v'/\v'.pd=pv/\(∀b,P' b->New P w 0 b)/\(∀b,P b->b<w.heap.size->P' b)/\(a=o∨∃r,a=some r/\w.heap.size<=r)/\z9h g o w w'
theorem q1f(f:Nat->Bool)(l:List Int)(x:Int):z3O f (l++[x])=j6y (z3O f l) x.toNat false:=by simp[z3O]
theorem q8j(g:Nat)(c:Cs)(v:CsV)(x:Pkt)(y1 y2:Value)(P:Nat->Prop)(B:Nat)(o:Option Nat)(w:World)(h:z7W P B o w g c v)(h1:Rep P w y1 2 16 (pwC x.S))(h2:Rep P w y2 1 8 (inC x.D))(hD:∀u∈x.D,0<=u/\u<6)(N:c.rp.length*16<=168884986026393)(e0:0<=c.t)(e3:c.t<=1099511627776) :
  Calls prog 122 #[J2 (some ⟨g,0,none⟩),J4 #[.int .i64 x.k,.int .i64 x.i,.int .i64 x.v,.int .i64 x.n,y1,y2]] w (j5t P B o w g (takeC c x) v.pd):=by
 have hT:takeC c x={ c with set:=Df.z2F c.set x.S,id:=x.i,fl:=z3O c.fl x.D,rp:=c.rp++[(x.i,c.t+15)]}:=rfl
 generalize takeC c x=D at *;have HT:=J6 hT;have HL:=J6 N;have HD:=J6 hD;have s:=J6 h;have H1:=J6 h1;obtain⟨G,n1,H,e1,-⟩:=id h1;obtain⟨Q,R,e2,s2,-,U,-⟩:=h2.open (z0s _) (by decide)
 have b5:=J6 U;have b6:x.D.length<=17592186044405:=by omega
 subst e1 e2;have b7:=J6 (λ(K:World) (hb:Bl w K)=>j0T c.set x.S v.set (J1 G n1 H) P P K (h.set.over hb) (h1.over hb));clear h1 h2 U hT N hD s2
 go_enter func122,ntmps122
 go_upto_region 1 with fail
 have K0:=CAt.new 68 w #[.int .i64 x.k,.int .i64 x.i,.int .i64 x.v,.int .i64 x.n,J1 G n1 H,J1 Q x.D.length R];have b0:Bl w (w.alloc (J5 #[.int .i64 x.k,.int .i64 x.i,.int .i64 x.v,.int .i64 x.n,J1 G n1 H,J1 Q x.D.length R] 68)):=znw w _;have V:(w.alloc (J5 #[.int .i64 x.k,.int .i64 x.i,.int .i64 x.v,.int .i64 x.n,J1 G n1 H,J1 Q x.D.length R] 68)).heap.size=w.heap.size+1:=by simp
 generalize w.alloc (J5 #[.int .i64 x.k,.int .i64 x.i,.int .i64 x.v,.int .i64 x.n,J1 G n1 H,J1 Q x.D.length R] 68)=w0 at *;have a5:w0.cell? ⟨g,5,none⟩=some v.set:=(h.cat.over b0).cell 5;have k4:w0.cell? ⟨w.heap.size,4,none⟩=some (J1 G n1 H):=K0.cell 4;have T:=J6 (show _/\_/\_ from⟨K0,b0,V⟩);clear K0 b0 V h;have e4:g<w0.heap.size:=by have:=T.out.2.1.size;have:=s.out.cat.lt;omega
 apply j3n (λA n C w2=>∃w1,w2=w1.setCell ⟨g,5,none⟩ (J1 A n C)/\Rep (λb=>w0.heap.size<=b) w1 (J1 A n C) 2 16 (pwC (Df.z2F c.set x.S))/\Bl w0 w1)
 ·refine wp_region_noPanic ?_
  have HF:Hid (∀w1,Bl w0 w1->w1.cell? ⟨g,5,none⟩=some v.set/\w1.frozen? ⟨g,5,none⟩=false):=λw1 b1=>by
   have c1:=(s.out.cat.over T.out.2.1).over b1;exact⟨c1.cell 5,c1.free 5⟩
  go_region_with (go_at_call 161;refine(b7.out _ (by exact T.out.2.1.drew)).mono ?_;rintro e w1⟨A,n,C,rfl,hr,p⟩;have b1:=(Below.refl w0.heap.size w0).drew.trans p;obtain⟨y5,e5⟩:=HF.out w1 b1;have b9:=J6 hr;have c4:=J6 b1;clear hr p b1)
  all_goals exact NoPanic.normal ⟨A,n,C,rfl,rfl,w1,rfl,b9.out,c4.out⟩
 rintro A n C w2⟨w1,rfl,W,p⟩;clear a5 k4;have X:Bl w w1:=zbt T.out.2.1 p;have c5:=s.out.cat.lt;have c6:¬ New P w 0 g:=z0R s.out.notg c5;have c7:∀r,o=some r->¬ New P w 0 r:=λr e=>z0R (s.out.noto r e).1 (s.out.rp.lt e).2;have T1:z7W (New P w 0) B o w1 g c v:=(z7W.mono (s.out) (P':=λb=>New P w 0 b) (λb N hb=>.inl ⟨hb,N⟩) c6 c7).later X;have Y:=T1.j9k (J1 A n C) (Df.z2F c.set x.S) (W.mono λb _ hb=>.inr (by have:=T.out.2.2;omega))
 have K2:=(T.out.1.over p).other (c:=g) (o:=5) (by omega) (J1 A n C)
 have d0:z9h g o w (w1.setCell ⟨g,5,none⟩ (J1 A n C)):=(z9h.of (Alt.of X)).set 5 _;have a4:=(z1g Y.cat).1.2.2.2.2;have f4:=Y.cat.free 4;have k1:(w1.setCell ⟨g,5,none⟩ (J1 A n C)).cell? ⟨w.heap.size,1,none⟩=some (.int .i64 x.i):=K2.cell 1;have Z:=Y.cat.lt;have T3:=Y.put 4 (.int .i64 x.i) { c with set:=Df.z2F c.set x.S,id:=x.i} (j8N _ _ _) rfl rfl rfl rfl
 have K3:=K2.other (c:=g) (o:=4) (by omega) (.int .i64 x.i)
 have d1:=d0.set 4 (.int .i64 x.i);have HY:=J6 (show _/\_/\_ from⟨T3,K3,d1⟩);clear T1 Y K2 T3 K3 W p;generalize w1.setCell ⟨g,5,none⟩ (J1 A n C)=w2 at *;simp only[Exit.then];apply_assumption
 go_upto_region 3 with fail
 clear a4 f4 k1 Z;generalize w2.setCell ⟨g,4,none⟩ (.int .i64 x.i)=w3 at *;have k5:w3.cell? ⟨w.heap.size,5,none⟩=some (J1 Q x.D.length R):=HY.out.2.1.cell 5
 go_upto_region 4 with fail
 clear k5
 go_loopw [24] (λi wl=>∃(k:Nat),k<=x.D.length/\i=.int .i64 (k:Int)/\Hid (z7W (New P w 0) B o wl g { c with set:=Df.z2F c.set x.S,id:=x.i,fl:=z3O c.fl (x.D.take k)} { v with set:=J1 A n C})/\Hid (CAt 68 wl w.heap.size #[.int .i64 x.k,.int .i64 x.i,.int .i64 x.v,.int .i64 x.n,J1 G n1 H,J1 Q x.D.length R])/\Hid (z9h g o w wl)) (λi _=>x.D.length - (intOf i).toNat)
 case atStart=>exact⟨0,Nat.zero_le _,rfl,HY.out.1,HY.out.2.1,HY.out.2.2⟩
 case round =>
  obtain⟨k,hk,rfl,d,L,q⟩:=hrel
  by_cases E:k<x.D.length
  ·have e6:(k:Int)<(x.D.length:Int):=by omega
   obtain⟨b,off,rfl,a0,d2,hcell⟩:=b5.out (by omega)
   have a1:x.D.getD k 0=x.D[k]:=by simp[List.getD,E]
   have hu:=HD.out x.D[k] (List.getElem_mem E);have d3:some b≠o:=λe=>(s.out.noto b e.symm).1 a0
   have cD:wr.cell? ⟨b,off+k,none⟩=some (.int .i64 x.D[k]):=by
    rw[World.cell?_of_block (w:=w) (a:=⟨b,off+k,none⟩) (q.out.block b d2 (λe=>s.out.notg (e ▸ a0)) d3),hcell k _ (z4F _ k E),a1]
   have a2:x.D.take (k+1)=x.D.take k++[x.D[k]]:=List.take_succ_eq_append_getElem E;obtain⟨m,hm⟩:∃m:Nat,x.D[k]=(m:Int):=⟨x.D[k].toNat,by omega⟩
   have a6:m<6:=by omega
   have e7:(m:Int)<6:=by omega
   have e8:(0:Int)<=(m:Int):=by omega
   rw[hm]at cD;have aF:wr.cell? ⟨g,8+m,none⟩=some (J3 (z3O c.fl (x.D.take k) m)):=(d.out.cat.cell _).trans (j0U _ _ a6);have fF:=d.out.cat.free (8+m);have d8:=d.out.cat.lt;have T5:=d.out.put (8+m) (J3 false) { c with set:=Df.z2F c.set x.S,id:=x.i,fl:=z3O c.fl (x.D.take (k+1))} (by rw[j4Q _ _ a6,a2,q1f,hm,Int.toNat_natCast]) rfl rfl rfl rfl
   have K5:=L.out.other (c:=g) (o:=8+m) (by omega) (J3 false)
   have A5:=q.out.set (8+m) (J3 false);have y:=J6 (show _/\_/\_ from⟨T5,K5,A5⟩);clear T5 K5 A5 hcell hu a1 hm a2 d L q
   go_upto_region 7 with fail
   clear cD aF fF;generalize wr.setCell ⟨g,8+m,none⟩ (J3 false)=w5 at *;go_wp2
   first|exact⟨⟨k+1,by omega,by go_num,y.out.1,y.out.2.1,y.out.2.2⟩,by simp[intOf];omega⟩|((repeat apply Exists.intro);exact⟨⟨k+1,by omega,by go_num,y.out.1,y.out.2.1,y.out.2.2⟩,rfl⟩)
  ·obtain rfl:k=x.D.length:=by omega
   rw[List.take_length]at d;obtain⟨Ar,Cr,er⟩:=d.out.rp.slice;have M:v.rp=J1 Ar c.rp.length Cr:=er;have a7:wr.cell? ⟨g,7,none⟩=some (J1 Ar c.rp.length Cr):=by rw[<-M];exact d.out.cat.cell 7
   have a3:wr.cell? ⟨g,3,none⟩=some (.int .i64 c.t):=d.out.cat.cell 3;have k1:wr.cell? ⟨w.heap.size,1,none⟩=some (.int .i64 x.i):=L.out.cell 1
   go_upto_region 8 with fail
   have a8:Hid (∀K,Bl wr K->RR (New P w 0) B o K (J1 Ar c.rp.length Cr) c.rp/\B<=K.heap.size):=λK hb=>by
    have t:=d.out.later hb;have:=t.rp;rw[er]at this;exact⟨this,t.base⟩
   have d4:some g≠o:=λe=>(s.out.noto g e.symm).2 rfl;have e9:g<wr.heap.size:=d.out.cat.lt;have d5:=J6 d.out.cat
   have HF:Hid (∀(w8 F:World),Bl wr w8->w8.grownBy F o->F.cell? ⟨g,7,none⟩=some (J1 Ar c.rp.length Cr)/\F.frozen? ⟨g,7,none⟩=false):=λw8 F hb l=>by
    have c8:=d5.out.over hb;have c9:=c8.keep (l.block g c8.lt d4);exact⟨by rw[<-M];exact c9.cell 7,c9.free 7⟩
   have d9:IntKind.i64.wrap (c.t+15)=c.t+15:=by simp[IntKind.wrap,IntKind.bits,IntKind.signed];omega
   have d6:=HL.out;clear er M
   go_region_law (first
    | (refine j3m rfl rfl _ _ rfl (v:=J1 Ar c.rp.length Cr) (B:=B) (o:=o) rfl (x.i,c.t+15) wr.heap.size rfl (a8.out _ (by exact(znw wr _).drew)).1 (a8.out _ (by exact(znw wr _).drew)).2 d6 (λj u hj=>j6n wr (x.i,c.t+15) j u hj) ?_;intro r C9 F z l f;obtain⟨y7,d7⟩:=HF.out _ F (by exact(znw wr (J5 #[.int .i64 x.i,.int .i64 (c.t+15)] 79)).drew) l;have HW:=J6 (show _/\_/\_ from⟨z,l,f⟩);clear z l f))
   all_goals
    obtain⟨z,l,f⟩:=HW.out;have b8:Bl wr (wr.alloc (J5 #[.int .i64 x.i,.int .i64 (c.t+15)] 79)).drew:=(znw wr _).drew;have T9:=(d.out.later b8).app z l f;have A9:z9h g o w (F.setCell ⟨g,7,none⟩ (J1 (some ⟨r,0,none⟩) (c.rp.length+1) C9)):=((q.out.trans (z9h.of (Alt.of b8)) (.inl rfl)).grown l).set 7 _
    have a9:some r=o∨∃r',some r=some r'/\w.heap.size<=r':=by
     rcases f with e|e
     ·exact .inl e.symm
     ·exact .inr ⟨r,rfl,by rw[e];exact Nat.le_trans q.out.size b8.size⟩
    have b4:∀b,P b->b<w.heap.size->New P w 0 b/\b≠r:=λb hb N=>⟨.inl ⟨hb,N⟩,λe=>by
     rcases f with e'|e'
     ·exact(s.out.noto r e').1 (e ▸ hb)
     ·have:=q.out.size;have:=b8.size;omega⟩
    have y:=J6 (show _/\_/\_/\_ from⟨T9,A9,a9,b4⟩);clear T9 A9 a9 b4 z l f HW b8 y7 d7 a7 a3 k1;generalize F.setCell ⟨g,7,none⟩ (J1 (some ⟨r,0,none⟩) (c.rp.length+1) C9)=w10 at *;go_end0;have e:=HT.out;subst e;exact⟨_,some r,_,rfl,y.out.1,rfl,λb hb=>hb.1,y.out.2.2.2,y.out.2.2.1,y.out.2.1⟩
theorem Rep.tail{P:Nat->Prop}{w:World}{b off n C:Nat}{x:Int×Int}{l:List (Int×Int)}(h:Rep P w (J1 (some ⟨b,off,none⟩) n C) 2 8 (pwC (x :: l))):Rep P w (.slice (if C=1 then some ⟨b,off,none⟩ else some ⟨b,off+2,none⟩) l.length (C - 1)) 2 8 (pwC l):=by
 obtain⟨A,m,C',h1,h2,h3,g,c⟩:=h;cases h1;rw[z0c,List.length_cons]at h2;have i:n=l.length+1:=by omega
 refine⟨_,l.length,C - 1,rfl,z0c _,by omega,⟨λh=>(by split at h <;> cases h),by omega⟩,λh0=>?_⟩
 obtain⟨k,a,e,d,f,hc⟩:=c (by omega)
 cases e;refine⟨b,off+2,if_neg (by omega),d,f,λj u hu=>?_⟩
 have:=hc (j+2) u (by show([_,_] ++ pwC l)[j+2]?=_;simpa using hu)
 rwa [show off+(j+2)=off+2+j by omega]at this
theorem y0Q(c:Cs)(k i x n now:Int):(z2o c k i x n now).1.rp=c.rp/\(z2o c k i x n now).1.t=c.t:=by unfold z2o;split <;> exact⟨rfl,rfl⟩
theorem y0g{c:Cs}{k i x n now:Int}(h:(z2o c k i x n now).2≠0):(z2o c k i x n now).1=c:=by
 unfold z2o at h⊢
 split at h
 ·rename_i hg;rw[if_pos hg];dsimp only at h⊢;unfold Ln.z4C;rw[if_neg h]
 ·rename_i hg;rw[if_neg hg]
def q6R(g:Nat)(w:World):Nat:=match w.cell? ⟨g,7,none⟩ with
 | some (J1 _ n _)=>n
 | _=>0
theorem CAt.q6R{w:World}{g:Nat}{c:Cs}{v:CsV}(h:CAt 75 w g (csC c v)){A:Option Addr}{n C:Nat}(e:v.rp=J1 A n C):q6R g w=n:=by
 unfold Kc.q6R;rw[show w.cell? ⟨g,7,none⟩=some (J1 A n C)by rw[<-e];exact h.cell 7]
theorem j2F{c:Cs}(h:c.rp=[]):z1R c c.rp=c:=by
 rw[h]
 show { c with rp:=[]}=c
 rw[<-h]
theorem q7O{c:Cs}{x:Int×Int}{l:List (Int×Int)}(h:c.rp=x :: l):z1R c c.rp=if x.2<=c.t then(if(z2o c 2 x.1 0 0 c.t).2=0 then z1R (z2o c 2 x.1 0 0 c.t).1 l else c)else c:=by
 rw[h];have e:{ c with rp:=x :: l}=c:=by rw[<-h]
 show(if x.2<=c.t then(if(z2o c 2 x.1 0 0 c.t).2=0 then z1R (z2o c 2 x.1 0 0 c.t).1 l else { c with rp:=x :: l})else { c with rp:=x :: l})=_
 rw[e]
theorem q9a(c:Cs)(l:List (Int×Int)):∀m,z1R { c with rp:=m} l=z1R c l:=by
 induction l generalizing c with
 | nil=>intro m;rfl
 | cons x l ih =>
  intro m;have e:z2o { c with rp:=m} 2 x.1 0 0 c.t=({ (z2o c 2 x.1 0 0 c.t).1 with rp:=m},(z2o c 2 x.1 0 0 c.t).2):=by unfold z2o;split <;> rfl
  show(if x.2<=c.t then(if(z2o { c with rp:=m} 2 x.1 0 0 c.t).2=0 then z1R (z2o { c with rp:=m} 2 x.1 0 0 c.t).1 l else { c with rp:=x :: l})else { c with rp:=x :: l})=(if x.2<=c.t then(if(z2o c 2 x.1 0 0 c.t).2=0 then z1R (z2o c 2 x.1 0 0 c.t).1 l else { c with rp:=x :: l})else { c with rp:=x :: l})
  rw[e];dsimp only;rw[ih]
theorem q1O(g:Nat)(c:Cs)(v:CsV)(P:Nat->Prop)(w:World)(h:CAt 75 w g (csC c v))(hp:CIn P w c v)(hg:¬ P g)(a1:0<=c.t)(a2:c.t<=1099511627776) :
  Calls prog 123 #[J2 (some ⟨g,0,none⟩)] w (j5p w g P (z1R c c.rp) (.tuple #[])):=by
 obtain⟨D,hD⟩:∃D,z1R c c.rp=D:=⟨_,rfl⟩;rw[hD];have Q:=z0R hg h.lt;have HS:=J6 (show CAt 75 w g (csC c v)/\CIn (New P w 0) w c v/\z1R c c.rp=D from⟨h,hp.z2X (Below.refl _ _) 0,hD⟩);clear h hp hD
 go_enter func123,ntmps123
 go_wp2
 go_loopw [2] (λ_ wl=>∃(d:Cs) (u:CsV),Hid (CAt 75 wl g (csC d u)/\CIn (New P w 0) wl d u/\z1R d d.rp=D)/\Hid (Alt g w wl)/\Hid (d.t=c.t)) (λ_ wl=>q6R g wl)
 case atStart=>exact⟨c,v,HS,Alt.refl _ _,rfl⟩
 case round =>
  obtain⟨d,u,j,HA,H⟩:=hrel;obtain⟨Ar,Cr,er,-,a4,R,-⟩:=j.out.2.1.rp.open (z0c _) (by decide)
  have a5:=j.out.2.1.rp.room er;have a7:wr.cell? ⟨g,7,none⟩=some (J1 Ar d.rp.length Cr):=by rw[<-er];exact j.out.1.cell 7
  have a3:wr.cell? ⟨g,3,none⟩=some (J I d.t):=j.out.1.cell 3;have alt:∀{S:World},Alt g w S->∀n,Alt g w (S.drewN n):=λh n=>⟨h.os,h.tape,h.output,h.size,h.block⟩;cases m:d.rp with
  | nil =>
   rw[m]at a7;have T:D=d:=by rw[<-j.out.2.2,j2F m]
   have f:=J6 T;clear T
   go_upto_region 0 with fail
   go_quiet (fail);go_wp2;go_end0;rw[f.out];exact⟨u,rfl,j.out.1,j.out.2.1.keep λ_ _ _=>rfl,alt HA.out _⟩
  | cons x l =>
   have T:D=if x.2<=d.t then(if(z2o d 2 x.1 0 0 d.t).2=0 then z1R (z2o d 2 x.1 0 0 d.t).1 l else d)else d:=by rw[<-j.out.2.2,q7O m]
   have f:=J6 T;clear T;have A:d.rp.length=l.length+1:=by rw[m];rfl
   have b4:(0:Int)<((l.length:Int)+1):=by omega
   obtain⟨b,off,rfl,-,a6,hcell⟩:=R (by omega)
   rw[A]at a7;have c0:wr.cell? ⟨b,off,none⟩=some (J I x.1):=hcell 0 _ (by rw[m];rfl)
   have c1:wr.cell? ⟨b,off+1,none⟩=some (J I x.2):=hcell 1 _ (by rw[m];rfl)
   obtain⟨K,x2⟩:=x;dsimp only at c0 c1 f;have L:=CAt.q6R j.out.1 er;rw[A]at L;have a8:=J6 L;clear hcell R a4 L
   by_cases B:x2<=d.t
   ·replace f:=J6 (f.out.trans (if_pos B));have M:=J6 (λ(S:World) (hb:Bl wr S)=>q0k g d u 2 K 0 0 d.t (New P w 0) S (j.out.1.over hb) (j.out.2.1.over hb) Q (by rw[H.out];exact a1) (by rw[H.out];exact a2))
    have p:=y0Q d 2 K 0 0 d.t;have U:=J6 (λh=>y0g (c:=d) (k:=2) (i:=K) (x:=0) (n:=0) (now:=d.t) h);generalize b7:z2o d 2 K 0 0 d.t=SS at *;obtain⟨C,e2⟩:=SS;dsimp only at M f p U
    go_upto_region 0 with fail
    go_quiet (fail)
    go_upto_region 1 with fail
    have b1:Bl wr (wr.drewN nq):=⟨rfl,rfl,rfl,Nat.le_refl _,λ_ _=>rfl⟩;have d7:(wr.drewN nq).cell? ⟨g,7,none⟩=some (J1 (some ⟨b,off,none⟩) (l.length+1) Cr):=a7;have d3:(wr.drewN nq).cell? ⟨g,3,none⟩=some (J I d.t):=a3;have d0:(wr.drewN nq).cell? ⟨b,off,none⟩=some (J I K):=c0;have V:=J6 (show _/\_/\_ from⟨j.out.1.over b1,j.out.2.1.over b1,alt HA.out nq⟩);have W:=J6 b1;clear a7 a3 c0 c1 b1 a6 alt;generalize wr.drewN nq=w1 at *;apply z3u (λy=>∃u2,CAt 75 y g (csC C u2)/\CIn (New P w 0) y C u2/\Alt g w y)
    ·refine wp_region_noPanic ?_
     go_region_with (go_at_call 132;refine(M.out _ (by exact W.out.drew)).mono ?_;rintro e y⟨u2,rfl,r,o,z⟩;have HW:=J6 (show _/\_/\_ from⟨r,o,z⟩);clear r o z)
     all_goals
      obtain⟨r,o,z⟩:=HW.out;have A1:=V.out.2.2;have A3:Alt g w y:=A1.trans (Alt.trans (Alt.of (Below.refl _ w1).drew) z);refine NoPanic.normal ⟨rfl,rfl,u2,r,o.mono λb' _ s=>?_,A3⟩
      rcases s with⟨s,_⟩|s
      ·exact s
      ·exact .inr (Nat.le_trans A1.size s)
    rintro y⟨u2,r,o,z⟩;clear d7 d3 d0 M W V;have E:C.rp=(K,x2) :: l:=by rw[p.1,m]
    have X:=J6 (p.2.trans H.out);clear p
    by_cases he:e2=0
    ·subst he;replace f:=J6 (f.out.trans (if_pos rfl));obtain⟨A3,q,e3,-,-,Y,-⟩:=o.rp.open (z0c _) (by decide)
     have N:C.rp.length=l.length+1:=by rw[E];rfl
     obtain⟨b3,a,rfl,-,-,-⟩:=Y (by omega)
     rw[N]at e3;have a0:=(o.rp.room e3).1;have b8:(1:Int)<=(l.length:Int)+1:=by omega
     have b5:(l.length:Int)+1<=(q:Int):=by omega
     have b6:(1:Int)<=(q:Int):=by omega
     have z7:y.cell? ⟨g,7,none⟩=some (J1 (some ⟨b3,a,none⟩) (l.length+1) q):=by rw[<-e3];exact r.cell 7
     have f7:=r.free 7;have b9:=r.lt;have r4:Rep (New P w 0) y (.slice (if q=1 then some ⟨b3,a,none⟩ else some ⟨b3,a+2,none⟩) l.length (q - 1)) 2 8 (pwC l):=Rep.tail (x:=(K,x2)) (n:=l.length+1) (by have:=o.rp;rw[e3,E]at this;exact this)
     have C4:=r.set 7 (.slice (if q=1 then some ⟨b3,a,none⟩ else some ⟨b3,a+2,none⟩) l.length (q - 1));rw[q7C C u2 l]at C4;have Z:CIn (New P w 0) y { C with rp:=l} { u2 with rp:=.slice (if q=1 then some ⟨b3,a,none⟩ else some ⟨b3,a+2,none⟩) l.length (q - 1)}:=⟨o.set,o.pd,r4,o.said,o.due⟩
     have I4:=Z.set1 Q 7 (.slice (if q=1 then some ⟨b3,a,none⟩ else some ⟨b3,a+2,none⟩) l.length (q - 1));have A4:=z.set 7 (.slice (if q=1 then some ⟨b3,a,none⟩ else some ⟨b3,a+2,none⟩) l.length (q - 1));have F:=CAt.q6R C4 rfl;have G:=J6 (show _/\_/\_/\_ from⟨C4,I4,A4,F⟩);have a9:=J6 (q9a C l l);clear C4 I4 Z A4 r4 F r o z Y;simp only[Exit.then];apply_assumption;go_wp2;exact⟨⟨_,_,⟨G.out.1,G.out.2.1,by rw[a9.out];exact f.out.symm⟩,G.out.2.2.1,X.out⟩,by rw[G.out.2.2.2,a8.out];omega⟩
    ·replace f:=J6 (f.out.trans (if_neg he));have c4:(e2 != 0)=true:=by simpa using he
     have ed:C=d:=U.out he;subst ed;have G:=J6 (show _/\_/\_ from⟨r,o,z⟩);clear r o z;simp only[Exit.then];apply_assumption;go_wp2;go_end0;rw[f.out];exact⟨u2,rfl,G.out.1,G.out.2.1,G.out.2.2⟩
   ·replace f:=J6 (f.out.trans (if_neg B))
    go_upto_region 0 with fail
    go_quiet (fail);go_wp2;go_end0;rw[f.out];exact⟨u,rfl,j.out.1,j.out.2.1.keep λ_ _ _=>rfl,alt HA.out _⟩
end Kc
namespace Pv
open Go.RowKit
structure y0u(P:Nat->Prop)(w wl:World)(lv:Value)(l:List (Int×Pkt))(z:List (Value×Value)):Prop where
 len:z.length=l.length
 own:wl.ownsRow (w.heap.size+1) 70 7 lv l.length (quL l z)
 ins:∀(i:Nat) (x:Int×Pkt) (y:Value×Value),l[i]?=some x->z[i]?=some y->Rep P w y.1 2 16 (pwC x.2.S)/\Rep P w y.2 1 8 (inC x.2.D)
theorem q4S(w:World)(x:Int×Pkt)(y:Value×Value)(t:TypeId):∀j u,(akL x y)[j]?=some u->(w.alloc (J5 #[J I x.1,J I x.2.k,J I x.2.i,J I x.2.v,J I x.2.n,y.1,y.2] t)).cell? ((⟨w.heap.size,0,none⟩:Addr).add j)=some u:=λj u hu=>by
 rw[Addr.add_lit,Nat.zero_add];have h:=(CAt.new t w #[J I x.1,J I x.2.k,J I x.2.i,J I x.2.v,J I x.2.n,y.1,y.2]).cell j;rw[h]
 simpa [akL] using hu
theorem q6F(z:QS)(a:Int×Pkt):(z1n z a).left.length<=z.left.length+1:=by
 unfold z1n
 split
 ·simp
 ·split
  ·simp
  ·simp
theorem q6Z{p:Pr}{c:Nat}{x:Pkt}(h:(z1y p c x).2=false):(z1y p c x).1=p:=by
 unfold z1y at *
 repeat' split at h
 all_goals first|(cases h;done)|skip
 all_goals simp_all
theorem y0E(p:Pr)(c:Nat)(x:Pkt):(z1y p c x).1.q=p.q:=by
 unfold z1y
 repeat' split
 all_goals rfl
theorem q0f:∀(l:List (Int×Pkt)) (z:QS),(l.foldl z1n z).p.q=z.p.q/\(l.foldl z1n z).left.length<=z.left.length+l.length
 | [],z=>⟨rfl,Nat.le_refl _⟩
 | a :: l,z=>by
  have h:=q0f l (z1n z a);rw[List.foldl_cons];refine⟨h.1.trans ?_,by have:=q6F z a;rw[List.length_cons];omega⟩
  unfold z1n
  split
  ·rfl
  ·split
   ·exact y0E _ _ _
   ·rfl
structure QuR(Inv:Pr->Prop)(P:Nat->Prop)(w:World)(g:Nat)(s:QS)(lv:Value)(wl:World):Prop where
 st:∃(v:PrV) (Q:Nat->Prop),CAt 58 wl g (prC s.p v)/\PIn Q wl s.p v/\(∀b,Q b->New P w 0 b)/\¬ Q g/\¬ Q w.heap.size/\(∀r,lv.ownBlock=some r->¬ Q r)
 wt:CAt 82 wl w.heap.size #[J3 (s.wt 0),J3 (s.wt 1)]
 lf:∃z,y0u P w wl lv s.left z
 A:Alt g w wl
 inv:Inv s.p
theorem Alt.past{g:Nat}{w w':World}(h:Alt g w w'){b:Nat}(hb:w.heap.size<=b)(o:Nat)(x:Value):Alt g w (w'.setCell ⟨b,o,none⟩ x):=
 ⟨h.os,h.tape,h.output,(by simp[World.setCell];exact h.size),λk a c=>(Below.heap_setCell _ _ _ _ (show k≠b by omega)).trans (h.block k a c)⟩
theorem QuR.wait{Inv:Pr->Prop}{P:Nat->Prop}{w c n:World}{g:Nat}{s:QS}{lv v':Value}{q:PrV}{Q:Nat->Prop}{o:List (Value×Value)}{d:Nat->Bool}{x:Int×Pkt}{y:Value×Value}{z:Obj}
  (N:g<w.heap.size) (L:CAt 58 c g (prC s.p q)) (R:PIn Q c s.p q) (A:∀b,Q b->New P w 0 b) (B:¬ Q g) (C:¬ Q w.heap.size) (t:∀r,lv.ownBlock=some r->¬ Q r) (M:CAt 82 c w.heap.size #[J3 (d 0),J3 (d 1)])
  (T:c.ownsRow (w.heap.size+1) 70 7 lv s.left.length (quL s.left o)) (u:o.length=s.left.length) (U:∀(i:Nat) (x:Int×Pkt) (y:Value×Value),s.left[i]?=some x->o[i]?=some y->Rep P w y.1 2 16 (pwC x.2.S)/\Rep P w y.2 1 8 (inC x.2.D)) (l:Alt g w c) (V:Inv s.p)
  (E:Rep P w y.1 2 16 (pwC x.2.S)/\Rep P w y.2 1 8 (inC x.2.D)) (W:n.ownsRow (w.heap.size+1) 70 7 v' (s.left.length+1) (quL s.left o++akL x y)) (f:(c.alloc z).grownBy n lv.ownBlock) (F:v'.ownBlock=lv.ownBlock∨v'.ownBlock=some (c.alloc z).heap.size) :
  QuR Inv P w g { s with wt:=d,left:=s.left++[x]} v' n:=by
 have v:Bl c (c.alloc z):=znw c _;have m:=v.size;have hown:∀r,lv.ownBlock=some r->w.heap.size+1<=r/\r<c.heap.size:=λr e=>World.ownsRow.lt T r e;have X:CAt 58 n g (prC s.p q):=(f.block g (Nat.lt_of_lt_of_le L.lt m) (λe=>by have:=(hown g e.symm).1;omega)).trans (L.over v)
 have Y:CAt 82 n w.heap.size #[J3 (d 0),J3 (d 1)]:=(f.block w.heap.size (Nat.lt_of_lt_of_le M.lt m) (λe=>by have:=(hown _ e.symm).1;omega)).trans (M.over v)
 have G:∀b,b<c.heap.size->Q b->some b≠v'.ownBlock:=λb hb Z e=>by
  rcases F with h|h
  ·exact t b (by rw[<-h,e]) Z
  ·rw[h]at e;cases e;omega
 have P9:PIn (λb=>Q b/\some b≠v'.ownBlock) n s.p q:=((R.mono (P':=λb=>(Q b/\some b≠v'.ownBlock)) λb H hb=>⟨hb,G b H hb⟩).over v).keep λb hb K=>f.block b K λe=>t b e.symm hb.1;refine⟨⟨q,_,X,P9,λb h=>A b h.1,λh=>B h.1,λh=>C h.1,λr e h=>h.2 e.symm⟩,Y,⟨o++[y],by simp[u],?_,λi a b j hb=>?_⟩,?_,V⟩
 ·rw[q3h s.left o x y u,List.length_append];exact W
 ·by_cases h:i<s.left.length
  ·rw[List.getElem?_append_left h]at j;rw[List.getElem?_append_left (by rw[u];exact h)]at hb
   exact U i a b j hb
  ·rw[List.getElem?_append_right (by omega)]at j
   rw[List.getElem?_append_right (by rw[u];omega),u]at hb
   rcases Nat.eq_zero_or_pos (i - s.left.length)with h0|h0
   ·rw[h0]at j hb
    simp at j hb
    subst j hb;exact E
   ·rw[List.getElem?_eq_none (by simp;omega)]at j
    cases j
 ·exact⟨f.os.trans l.os,f.tape.trans l.tape,f.output.trans l.output,Nat.le_trans l.size (Nat.le_trans m f.size),λk hk hn=>((f.block k (by have:=l.size;omega) (λe=>by have:=(hown k e.symm).1;omega)).trans (v.block k (by have:=l.size;omega))).trans (l.block k hk hn)⟩
theorem y2d(p:Pr)(v:PrV)(l:List (Int×Pkt))(x:Value):(prC p v).setIfInBounds 96 x=prC { p with q:=l} { v with q:=x}:=rfl
theorem j5m(f:Nat->Bool){m:Nat}(a:m<2):(#[J3 (f 0),J3 (f 1)]:Array Value).setIfInBounds m (J3 true)=#[J3 ((λi=>if i=m then true else f i) 0),J3 ((λi=>if i=m then true else f i) 1)]:=by
 rcases(show m=0∨m=1 by omega)with rfl|rfl <;> rfl
theorem q8H(Inv:Pr->Prop)(g:Nat)(p:Pr)(v:PrV)(P:Nat->Prop)(w:World)(hC:CAt 58 w g (prC p v))(hp:PIn P w p v)(hg:¬ P g)(h0:Inv p)(i6:p.q.length*88<=140737488355328)(hq:∀a∈p.q,0<=a.1/\a.1<2)
  (c9:∀a∈p.q,∀(p':Pr) (v':PrV) (P':Nat->Prop) (wx:World) (y1 y2:Value),Inv p'->CAt 58 wx g (prC p' v')->PIn P' wx p' v'->¬ P' g->Calls prog 109 #[J2 (some ⟨g,0,none⟩),J4 #[.int .i64 a.1,.int .i64 a.2.k,.int .i64 a.2.i,.int .i64 a.2.v,.int .i64 a.2.n,y1,y2]] wx (z4E wx g P' (z1y p' a.1.toNat a.2)))
  (hI:∀a∈p.q,∀p',Inv p'->Inv (z1y p' a.1.toNat a.2).1) :
  Calls prog 77 #[J2 (some ⟨g,0,none⟩)] w (Turns w g P (z0q p)):=by
 obtain⟨i0,hi,d0,d1,d2⟩:=info_parts q8n;have g3:=hC.lt;have d3:z0q p={ (goQ p).p with q:=(goQ p).left}:=rfl
 have d4:goQ p=p.q.foldl z1n ⟨p,λ_=>false,[]⟩:=rfl;generalize z0q p=D at *;generalize goQ p=G at *;obtain⟨z,b8,d5,d6⟩:=id hp.q;obtain⟨Aq,Cq,eq,sq,-,cq,-⟩:=d5.open (z2I _ _ b8) (by decide)
 have g5:=J6 b8;have g6:=J6 d6;have g8:=J6 cq;have g9:p.q.length<=1759218604390:=by omega
 have h4:=J6 hq;have h5:=J6 c9;have h6:=J6 hI;have h7:=J6 d3;have d7:=J6 d4;have B0:Bl w (w.alloc (J5 #[J3 false,J3 false] 82)):=znw w _;have H0:Hid (QuR Inv P w g ⟨p,λ_=>false,[]⟩ (J1 none 0 0) (w.alloc (J5 #[J3 false,J3 false] 82))):=⟨⟨v,λb=>P b/\b<w.heap.size,hC.over B0,(hp.mono λb hl h=>⟨h,hl⟩).over B0,λb h=>.inl h,λh=>hg h.1,λh=>by have:=h.2;omega,λr e=>by cases e⟩,CAt.new _ _ _,⟨[],rfl,World.ownsRow_nil _ _ _ _,λi x y h=>by cases h⟩,Alt.of B0,h0⟩
 clear b8 d6 d5 cq hq c9 hI d3 d4 B0 h0 sq
 go_enter func77,ntmps77
 go_upto_region 2 with fail
 have d8:(w.alloc (J5 #[J3 false,J3 false] 82)).cell? ⟨g,96,none⟩=some (J1 Aq p.q.length Cq):=by rw[<-eq];exact(hC.alloc _).cell 96
 generalize w.alloc (J5 #[J3 false,J3 false] 82)=w0 at *
 go_upto_region 3 with fail
 clear d8 eq
 go_loopw [3,11] (λlv i wl=>∃(k:Nat),k<=p.q.length/\i=.int .i64 (k:Int)/\Hid (QuR Inv P w g ((p.q.take k).foldl z1n ⟨p,λ_=>false,[]⟩) lv wl)) (λ_ i _=>p.q.length - (intOf i).toNat)
 case atStart=>exact⟨0,Nat.zero_le _,rfl,H0⟩
 case round =>
  obtain⟨k,hk,rfl,HR⟩:=hrel
  by_cases a7:k<p.q.length
  ·have i9:(k:Int)<(p.q.length:Int):=by omega
   have hk0:(0:Int)<=(k:Int):=by omega
   have hx:p.q[k]?=some p.q[k]:=List.getElem?_eq_getElem a7;have h8:k<z.length:=by rw[g5.out];exact a7
   have hy:z[k]?=some z[k]:=List.getElem?_eq_getElem h8;have a0:=g6.out k _ _ hx hy;have hmem:p.q[k]∈p.q:=List.getElem_mem a7;have d9:(p.q.take (k+1)).foldl z1n ⟨p,λ_=>false,[]⟩=z1n ((p.q.take k).foldl z1n ⟨p,λ_=>false,[]⟩) p.q[k]:=by rw[List.take_succ_eq_append_getElem a7,List.foldl_append];rfl
   have e7:=(q0f (p.q.take k) ⟨p,λ_=>false,[]⟩).2;rw[List.length_take,Nat.min_eq_left hk]at e7;have Y:=J6 d9;have a8:=h5.out _ hmem;have a9:=h6.out _ hmem;have e8:=h4.out _ hmem;generalize (p.q.take k).foldl z1n ⟨p,λ_=>false,[]⟩=s at *;have h9:s.left.length+1<=p.q.length:=by simp at e7;omega
   obtain⟨bq,oq,rfl,e9,f4,hcell⟩:=g8.out (by omega)
   have f5:bq≠g:=λe=>hg (e ▸ e9)
   have hc:∀j,j<7->∀u,(akL p.q[k] z[k])[j]?=some u->wr.cell? ⟨bq,oq+k*7+j,none⟩=some u:=λj hj u hu=>by
    rw[World.cell?_of_block (w:=w) (a:=⟨bq,oq+k*7+j,none⟩) (HR.out.A.block bq f4 f5),Nat.add_assoc];exact hcell _ _ ((z6O p.q z k _ _ j hx hy hj).trans hu)
   have e0:=hc 0 (by omega) _ rfl
   have e1:=hc 1 (by omega) _ rfl
   have e2:=hc 2 (by omega) _ rfl
   have e3:=hc 3 (by omega) _ rfl
   have e4:=hc 4 (by omega) _ rfl
   have e5:=hc 5 (by omega) _ rfl
   have e6:=hc 6 (by omega) _ rfl
   rw[Nat.add_zero]at e0;generalize p.q[k]=x at *;generalize z[k]=y at *;obtain⟨y1,y2⟩:=y;dsimp only at a0 e5 e6;obtain⟨⟨T,n1,U,i2,-⟩,⟨V,W,X,i3,-⟩⟩:=id a0;subst i2 i3;obtain⟨x1,f⟩:=x;dsimp only at e8 a8 a9 a0 e0 e1 e2 e3 e4;obtain⟨m,rfl⟩:∃m:Nat,x1=(m:Int):=⟨x1.toNat,by omega⟩
   have f6:m<2:=by omega
   have j1:(m:Int)<2:=by omega
   have j2:(0:Int)<=(m:Int):=by omega
   rw[Int.toNat_natCast]at a8 a9;have f8:=J6 a0;have b4:=J6 a8;have b5:=J6 a9;have bA:Bl wr (wr.alloc (J5 #[.int .i64 (m:Int),.int .i64 f.k,.int .i64 f.i,.int .i64 f.v,.int .i64 f.n,J1 T n1 U,J1 V W X] 70)):=znw wr _;have K5:=CAt.new 70 wr #[.int .i64 (m:Int),.int .i64 f.k,.int .i64 f.i,.int .i64 f.v,.int .i64 f.n,J1 T n1 U,J1 V W X];clear hc hcell hx hy a0 a8 a9 d9 hmem f4 e9 f5 e8
   go_upto_region 5 with fail
   clear e0 e1 e2 e3 e4 e5 e6;obtain⟨w5,b9⟩:∃w5,w5=wr.alloc (J5 #[.int .i64 (m:Int),.int .i64 f.k,.int .i64 f.i,.int .i64 f.v,.int .i64 f.n,J1 T n1 U,J1 V W X] 70):=⟨_,rfl⟩;rw[<-b9]at K5 bA;rw[<-b9];clear b9;obtain⟨⟨v5,Q,C5,P5,L,H,M,N⟩,W5,⟨z5,L5⟩,A5,I5⟩:=HR.out;have i7:w.heap.size<wr.heap.size:=W5.lt;have C6:=C5.over bA;have P6:=P5.over bA;have W6:=W5.over bA;have A6:=A5.trans (Alt.of bA);have O6:=Ln.z9W L5.own bA;have j3:=bA.size;have f9:=g3;have k0:w5.cell? ⟨wr.heap.size,0,none⟩=some (.int .i64 (m:Int)):=K5.cell 0;have k1:w5.cell? ⟨wr.heap.size,1,none⟩=some (.int .i64 f.k):=K5.cell 1;have k2:w5.cell? ⟨wr.heap.size,2,none⟩=some (.int .i64 f.i):=K5.cell 2;have k3:w5.cell? ⟨wr.heap.size,3,none⟩=some (.int .i64 f.v):=K5.cell 3;have k4:w5.cell? ⟨wr.heap.size,4,none⟩=some (.int .i64 f.n):=K5.cell 4;have k5:w5.cell? ⟨wr.heap.size,5,none⟩=some (J1 T n1 U):=K5.cell 5;have k6:w5.cell? ⟨wr.heap.size,6,none⟩=some (J1 V W X):=K5.cell 6
   have aW:w5.cell? ⟨w.heap.size,m,none⟩=some (J3 (s.wt m)):=by
    rw[W6.cell m]
    rcases(show m=0∨m=1 by omega)with rfl|rfl <;> rfl
   have a1:=J6 (b4.out s.p v5 Q w5 (J1 T n1 U) (J1 V W X) I5 C6 P6 H)
   have a2:z1n s ((m:Int),f)=if s.wt m=true then { s with left:=s.left++[((m:Int),f)]} else if(z1y s.p m f).2=true then { s with p:=(z1y s.p m f).1} else { s with wt:=λi=>if i=m then true else s.wt i,left:=s.left++[((m:Int),f)]}:=by
    unfold z1n;rw[Int.toNat_natCast]
   have l:=J6 a2;have g0:=J6 (b5.out s.p I5);have g1:=J6 (λh=>q6Z (p:=s.p) (c:=m) (x:=f) h);have K:=J6 (show _/\_/\_/\_/\_/\_/\_ from⟨C6,P6,W6,A6,O6,K5,I5⟩);have Z:=J6 (show _/\_ from⟨L5.len,L5.ins⟩);have c4:=J6 (show _/\_/\_/\_ from⟨L,H,M,N⟩);clear C5 P5 W5 A5 L5 I5 C6 P6 W6 A6 O6 K5 L H M N a2 HR bA b4 b5;generalize z1y s.p m f=dl at *;obtain⟨p',b'⟩:=dl;dsimp only at l g0 g1 a1;cases a3:s.wt m
   ·rw[a3]at aW;replace l:=J6 (l.out.trans (if_neg (by simp[a3])))
    cases b'
    ·
     replace l:=J6 (l.out.trans (if_neg (by simp)))
     have e:=g1.out rfl;subst e
     go_upto_region 6 with(go_at_call 109;refine a1.out.mono ?_;rintro e B⟨v7,rfl,C7,P7,A7⟩;dsimp only at C7 P7;have R:=J6 (show _/\_/\_ from⟨C7,P7,A7⟩);clear C7 P7 A7;dsimp only)
     have j4:w5.heap.size<=B.heap.size:=R.out.2.2.size
     have C:Hid ((∀b,New Q w5 0 b->New P w 0 b)/\¬ New Q w5 0 g/\¬ New Q w5 0 w.heap.size/\∀r,u3.ownBlock=some r->¬ New Q w5 0 r):=by
      obtain⟨L,H,M,N⟩:=c4.out;refine⟨λb h=>?_,z0R H (by omega),z0R M (by omega),λr e=>z0R (N r e) (by have:=(World.ownsRow.lt K.out.2.2.2.2.1 r e).2;omega)⟩
      rcases h with⟨h,_⟩|h
      ·exact L b h
      ·exact .inr (by omega)
     have d:=J6 (show _/\_/\_/\_/\_/\_ from⟨R.out.1,R.out.2.1,R.out.2.2.cat (by omega) K.out.2.2.1,Ln.z1v K.out.2.2.2.2.1 λr e=>R.out.2.2.block r (World.ownsRow.lt K.out.2.2.2.2.1 r e).2 (by have:=(World.ownsRow.lt K.out.2.2.2.2.1 r e).1;omega),R.out.2.2.cat (b:=wr.heap.size) (by omega) K.out.2.2.2.2.2.1,K.out.2.2.2.1.trans R.out.2.2⟩)
     clear R a1
     have c5:B.cell? ⟨w.heap.size,m,none⟩=some (J3 (s.wt m)):=by
      rw[d.out.2.2.1.cell m]
      rcases(show m=0∨m=1 by omega)with rfl|rfl <;> rfl
     have f7:=d.out.2.2.1.free m;have j0:B.cell? ⟨wr.heap.size,0,none⟩=some (.int .i64 (m:Int)):=d.out.2.2.2.2.1.cell 0;have a4:=d.out.2.2.1.lt;have C8:=d.out.1.other (c:=w.heap.size) (o:=m) (by omega) (J3 true)
     have P8:=d.out.2.1.keep (w':=B.setCell ⟨w.heap.size,m,none⟩ (J3 true)) λb hb _=>Below.heap_setCell B ⟨w.heap.size,m,none⟩ (J3 true) b (show b≠w.heap.size from λe=>C.out.2.2.1 (e ▸ hb));have W8:=d.out.2.2.1.set m (J3 true);rw[j5m s.wt f6]at W8;have O8:=Ln.z1v d.out.2.2.2.1 (w':=B.setCell ⟨w.heap.size,m,none⟩ (J3 true)) λr e=>Below.heap_setCell B ⟨w.heap.size,m,none⟩ (J3 true) r (show r≠w.heap.size by have:=(World.ownsRow.lt d.out.2.2.2.1 r e).1;omega)
     have K8:=d.out.2.2.2.2.1.other (c:=w.heap.size) (o:=m) (by omega) (J3 true)
     have A8:=d.out.2.2.2.2.2.past (b:=w.heap.size) (Nat.le_refl _) m (J3 true);have t:=J6 (show _/\_/\_/\_/\_/\_ from⟨C8,P8,W8,O8,K8,A8⟩);clear C8 P8 W8 O8 K8 A8 k0 k1 k2 k3 k4 k5 k6 aW
     go_upto_region 7 with fail
     clear c5 f7 j0 a4;generalize B.setCell ⟨w.heap.size,m,none⟩ (J3 true)=w8 at *;have k0:w8.cell? ⟨wr.heap.size,0,none⟩=some (.int .i64 (m:Int)):=t.out.2.2.2.2.1.cell 0;have k1:w8.cell? ⟨wr.heap.size,1,none⟩=some (.int .i64 f.k):=t.out.2.2.2.2.1.cell 1;have k2:w8.cell? ⟨wr.heap.size,2,none⟩=some (.int .i64 f.i):=t.out.2.2.2.2.1.cell 2;have k3:w8.cell? ⟨wr.heap.size,3,none⟩=some (.int .i64 f.v):=t.out.2.2.2.2.1.cell 3;have k4:w8.cell? ⟨wr.heap.size,4,none⟩=some (.int .i64 f.n):=t.out.2.2.2.2.1.cell 4;have k5:w8.cell? ⟨wr.heap.size,5,none⟩=some (J1 T n1 U):=t.out.2.2.2.2.1.cell 5;have k6:w8.cell? ⟨wr.heap.size,6,none⟩=some (J1 V W X):=t.out.2.2.2.2.1.cell 6;have i4:w.heap.size<w8.heap.size:=t.out.2.2.1.lt;have a5:=World.ownsRow.alloc t.out.2.2.2.1 (J5 #[.int .i64 (m:Int),.int .i64 f.k,.int .i64 f.i,.int .i64 f.v,.int .i64 f.n,J1 T n1 U,J1 V W X] 70);have c6:=J6 a5;clear a5
     go_upto_region 8 with(at_builtin;refine wpList_append_own_at _ rfl _ _ 56 rfl (w.heap.size+1) 70 i0 (J4 #[.int .i64 0,.int .i64 0,.int .i64 0,.int .i64 0,.int .i64 0,J1 none 0 0,J1 none 0 0]) 7 88 underlying56 hi d0 d1 d2 rfl (by decide) _ _ _ rfl c6.out ⟨w8.heap.size,0,none⟩ 1 1 (akL ((m:Int),f) (J1 T n1 U,J1 V W X)) rfl rfl (q4S w8 ((m:Int),f) (J1 T n1 U,J1 V W X) 70) (by intro u hu;simp[akL]at hu;rcases hu with rfl|rfl|rfl|rfl|rfl|rfl|rfl <;> rfl) (by unfold maxLen;omega) (by omega) (by simp;omega) ?_;intro v9 w9 E F _ a6;have S:=J6 (show _/\_/\_ from⟨E,F,a6⟩);clear E F a6)
     have HN:Hid (QuR Inv P w g { s with wt:=λi=>if i=m then true else s.wt i,left:=s.left++[((m:Int),f)]} v9 w9):=QuR.wait f9 t.out.1 t.out.2.1 C.out.1 C.out.2.1 C.out.2.2.1 C.out.2.2.2 t.out.2.2.1 t.out.2.2.2.1 Z.out.1 Z.out.2 t.out.2.2.2.2.2 K.out.2.2.2.2.2.2 f8.out S.out.1 S.out.2.1 S.out.2.2
     clear k0 k1 k2 k3 k4 k5 k6;go_wp2
     first|exact⟨⟨k+1,by omega,by go_num,by rw[Y.out,l.out];exact HN.out⟩,by simp[intOf];omega⟩|((repeat apply Exists.intro);exact⟨⟨k+1,by omega,by go_num,by rw[Y.out,l.out];exact HN.out⟩,rfl⟩)
    ·replace l:=J6 (l.out.trans (if_pos rfl))
     go_upto_region 8 with(go_at_call 109;refine a1.out.mono ?_;rintro e B⟨v7,rfl,C7,P7,A7⟩;dsimp only at C7 P7;have d:=J6 (show _/\_/\_ from⟨C7,P7,A7⟩);clear C7 P7 A7;dsimp only)
     clear k0 k1 k2 k3 k4 k5 k6 aW
     have HN:Hid (QuR Inv P w g { s with p:=p' } u3 B):=by
      obtain⟨C7,P7,A7⟩:=d.out;obtain⟨L,H,M,N⟩:=c4.out;refine⟨⟨v7,New Q w5 0,C7,P7,λb h=>?_,z0R H (by omega),z0R M (by omega),λr e=>z0R (N r e) (by have:=(World.ownsRow.lt K.out.2.2.2.2.1 r e).2;omega)⟩,A7.cat (by omega) K.out.2.2.1,⟨z5,Z.out.1,Ln.z1v K.out.2.2.2.2.1 λr e=>A7.block r (World.ownsRow.lt K.out.2.2.2.2.1 r e).2 (by have:=(World.ownsRow.lt K.out.2.2.2.2.1 r e).1;omega),Z.out.2⟩,K.out.2.2.2.1.trans A7,g0.out⟩
      rcases h with⟨h,_⟩|h
      ·exact L b h
      ·exact .inr (by omega)
     go_wp2
     first|exact⟨⟨k+1,by omega,by go_num,by rw[Y.out,l.out];exact HN.out⟩,by simp[intOf];omega⟩|((repeat apply Exists.intro);exact⟨⟨k+1,by omega,by go_num,by rw[Y.out,l.out];exact HN.out⟩,rfl⟩)
   ·have b6:(λi=>if i=m then true else s.wt i)=s.wt:=funext λi=>by
     by_cases e:i=m
     ·rw[if_pos e,e,a3]
     ·rw[if_neg e]
    rw[a3]at aW;replace l:=J6 ((l.out.trans (if_pos a3)).trans (by rw[b6]:_=({ s with wt:=λi=>if i=m then true else s.wt i,left:=s.left++[((m:Int),f)]}:QS)))
    clear b6
    go_upto_region 6 with fail
    obtain⟨B,c7⟩:∃B,B=w5:=⟨_,rfl⟩;have C:=c4;have d:Hid (CAt 58 B g (prC s.p v5)/\PIn Q B s.p v5/\CAt 82 B w.heap.size #[J3 (s.wt 0),J3 (s.wt 1)]/\B.ownsRow (w.heap.size+1) 70 7 u3 s.left.length (quL s.left z5)/\CAt 70 B wr.heap.size #[.int .i64 (m:Int),.int .i64 f.k,.int .i64 f.i,.int .i64 f.v,.int .i64 f.n,J1 T n1 U,J1 V W X]/\Alt g w B):=by rw[c7];exact⟨K.out.1,K.out.2.1,K.out.2.2.1,K.out.2.2.2.2.1,K.out.2.2.2.2.2.1,K.out.2.2.2.1⟩
    rw[<-c7];clear c7 a1
    have c5:B.cell? ⟨w.heap.size,m,none⟩=some (J3 (s.wt m)):=by
     rw[d.out.2.2.1.cell m]
     rcases(show m=0∨m=1 by omega)with rfl|rfl <;> rfl
    have f7:=d.out.2.2.1.free m;have j0:B.cell? ⟨wr.heap.size,0,none⟩=some (.int .i64 (m:Int)):=d.out.2.2.2.2.1.cell 0;have a4:=d.out.2.2.1.lt;have C8:=d.out.1.other (c:=w.heap.size) (o:=m) (by omega) (J3 true)
    have P8:=d.out.2.1.keep (w':=B.setCell ⟨w.heap.size,m,none⟩ (J3 true)) λb hb _=>Below.heap_setCell B ⟨w.heap.size,m,none⟩ (J3 true) b (show b≠w.heap.size from λe=>C.out.2.2.1 (e ▸ hb));have W8:=d.out.2.2.1.set m (J3 true);rw[j5m s.wt f6]at W8;have O8:=Ln.z1v d.out.2.2.2.1 (w':=B.setCell ⟨w.heap.size,m,none⟩ (J3 true)) λr e=>Below.heap_setCell B ⟨w.heap.size,m,none⟩ (J3 true) r (show r≠w.heap.size by have:=(World.ownsRow.lt d.out.2.2.2.1 r e).1;omega)
    have K8:=d.out.2.2.2.2.1.other (c:=w.heap.size) (o:=m) (by omega) (J3 true)
    have A8:=d.out.2.2.2.2.2.past (b:=w.heap.size) (Nat.le_refl _) m (J3 true);have t:=J6 (show _/\_/\_/\_/\_/\_ from⟨C8,P8,W8,O8,K8,A8⟩);clear C8 P8 W8 O8 K8 A8 k0 k1 k2 k3 k4 k5 k6 aW
    go_upto_region 7 with fail
    clear c5 f7 j0 a4;generalize B.setCell ⟨w.heap.size,m,none⟩ (J3 true)=w8 at *;have k0:w8.cell? ⟨wr.heap.size,0,none⟩=some (.int .i64 (m:Int)):=t.out.2.2.2.2.1.cell 0;have k1:w8.cell? ⟨wr.heap.size,1,none⟩=some (.int .i64 f.k):=t.out.2.2.2.2.1.cell 1;have k2:w8.cell? ⟨wr.heap.size,2,none⟩=some (.int .i64 f.i):=t.out.2.2.2.2.1.cell 2;have k3:w8.cell? ⟨wr.heap.size,3,none⟩=some (.int .i64 f.v):=t.out.2.2.2.2.1.cell 3;have k4:w8.cell? ⟨wr.heap.size,4,none⟩=some (.int .i64 f.n):=t.out.2.2.2.2.1.cell 4;have k5:w8.cell? ⟨wr.heap.size,5,none⟩=some (J1 T n1 U):=t.out.2.2.2.2.1.cell 5;have k6:w8.cell? ⟨wr.heap.size,6,none⟩=some (J1 V W X):=t.out.2.2.2.2.1.cell 6;have i4:w.heap.size<w8.heap.size:=t.out.2.2.1.lt;have a5:=World.ownsRow.alloc t.out.2.2.2.1 (J5 #[.int .i64 (m:Int),.int .i64 f.k,.int .i64 f.i,.int .i64 f.v,.int .i64 f.n,J1 T n1 U,J1 V W X] 70);have c6:=J6 a5;clear a5
    go_upto_region 8 with(at_builtin;refine wpList_append_own_at _ rfl _ _ 56 rfl (w.heap.size+1) 70 i0 (J4 #[.int .i64 0,.int .i64 0,.int .i64 0,.int .i64 0,.int .i64 0,J1 none 0 0,J1 none 0 0]) 7 88 underlying56 hi d0 d1 d2 rfl (by decide) _ _ _ rfl c6.out ⟨w8.heap.size,0,none⟩ 1 1 (akL ((m:Int),f) (J1 T n1 U,J1 V W X)) rfl rfl (q4S w8 ((m:Int),f) (J1 T n1 U,J1 V W X) 70) (by intro u hu;simp[akL]at hu;rcases hu with rfl|rfl|rfl|rfl|rfl|rfl|rfl <;> rfl) (by unfold maxLen;omega) (by omega) (by simp;omega) ?_;intro v9 w9 E F _ a6;have S:=J6 (show _/\_/\_ from⟨E,F,a6⟩);clear E F a6)
    have HN:Hid (QuR Inv P w g { s with wt:=λi=>if i=m then true else s.wt i,left:=s.left++[((m:Int),f)]} v9 w9):=QuR.wait f9 t.out.1 t.out.2.1 C.out.1 C.out.2.1 C.out.2.2.1 C.out.2.2.2 t.out.2.2.1 t.out.2.2.2.1 Z.out.1 Z.out.2 t.out.2.2.2.2.2 K.out.2.2.2.2.2.2 f8.out S.out.1 S.out.2.1 S.out.2.2
    clear k0 k1 k2 k3 k4 k5 k6;go_wp2
    first|exact⟨⟨k+1,by omega,by go_num,by rw[Y.out,l.out];exact HN.out⟩,by simp[intOf];omega⟩|((repeat apply Exists.intro);exact⟨⟨k+1,by omega,by go_num,by rw[Y.out,l.out];exact HN.out⟩,rfl⟩)
  ·obtain rfl:k=p.q.length:=by omega
   rw[List.take_length,<-d7.out]at HR;have c8:=(q0f p.q ⟨p,λ_=>false,[]⟩).2;rw[<-d7.out]at c8;have b7:G.left.length<=p.q.length:=by simpa using c8
   have i5:=J6 b7;clear c8 b7;obtain⟨⟨v5,Q,C5,P5,L,H,M,N⟩,W5,⟨z5,L5⟩,A5,I5⟩:=HR.out;obtain⟨Al,Cl,el⟩:=Ln.z3N L5.own;subst el;have d8:wr.cell? ⟨g,96,none⟩=some v5.q:=C5.cell 96;have j5:=C5.free 96;have i8:=C5.lt;have C6:=C5.set 96 (J1 Al G.left.length Cl);rw[y2d G.p v5 G.left]at C6;have A6:=A5.set 96 (J1 Al G.left.length Cl);have k6:∀b,b≠g->(wr.setCell ⟨g,96,none⟩ (J1 Al G.left.length Cl)).heap[b]?=wr.heap[b]?:=λb hb=>Below.heap_setCell wr ⟨g,96,none⟩ _ b hb
   have N6:PIn (New P w 0) (wr.setCell ⟨g,96,none⟩ (J1 Al G.left.length Cl)) { G.p with q:=G.left} { v5 with q:=J1 Al G.left.length Cl}:=by
    have n5:=(P5.keep (w':=wr.setCell ⟨g,96,none⟩ (J1 Al G.left.length Cl)) λb hb _=>k6 b λe=>H (e ▸ hb)).mono (P':=New P w 0) λb _ hb=>L b hb;refine⟨n5.ws,n5.set,n5.lk,⟨z5,L5.len,?_,λi x y hx hy=>?_⟩⟩
    ·have o6:=Ln.z1v L5.own (w':=wr.setCell ⟨g,96,none⟩ (J1 Al G.left.length Cl)) λr e=>k6 r (by have:=(World.ownsRow.lt L5.own r e).1;omega)
     exact(Rep.own (bts:=80) o6 (by have:=i5.out;omega)).mono λb _ hb=>.inr (by omega)
    ·have h2:=L5.ins i x y hx hy;have key:∀{u:Value} {sz bts:Nat} {cs:List Value},Rep P w u sz bts cs->Rep (New P w 0) (wr.setCell ⟨g,96,none⟩ (J1 Al G.left.length Cl)) u sz bts cs:=λh=>(A6.rep (P:=λb=>P b/\b<w.heap.size) (λh=>hg h.1) (h.mono λb hl hb=>⟨hb,hl⟩)).mono λb _ hb=>.inl hb;exact⟨key h2.1,key h2.2⟩
   have HZ:=J6 (show _/\_/\_ from⟨C6,N6,A6⟩);have g2:=h7;clear C5 P5 L H M N W5 L5 A5 I5 C6 A6 k6 N6 HR;go_wp2;go_end0;rw[g2.out];exact⟨_,rfl,HZ.out.1,HZ.out.2.1,HZ.out.2.2⟩
end Pv
end Go.Proofs.YtddlhnoedldidaaGreat
