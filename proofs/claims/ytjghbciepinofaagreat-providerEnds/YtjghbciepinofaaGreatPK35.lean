/- Parts of the proof. -/
import Derived.Test.YtjghbciepinofaaGreatPL
import Derived.Test.YtjghbciepinofaaGreatPK23
set_option maxRecDepth 100000
set_option maxHeartbeats 16000000
namespace Go.Proofs.YtjghbciepinofaaGreat
open Go.Proofs.Tryz
open Value renaming int->J,slice->J1,pointer->J2,bool->J3,agg->J4
open IntKind renaming i64->I
open Obj renaming cells->J5
section
open Go.RowKit
structure q3J(s:St)(t:Int)(B ob:Nat)(w:World)(k:Nat)(A:Option Addr)(C:Nat)(A':Option Addr)(C':Nat)(wl:World):Prop where
 own9:z1k B wl A C (z0w t (s.W.take k))
 own10:z5W B wl A' C' (z0D t (s.W.take k))
 apart:∀ k',(Value.slice A (z0w t (s.W.take k)).length C).ownBlock=some k'->some k'≠(Value.slice A' (z0D t (s.W.take k)).length C').ownBlock
 R:SAt wl (w.heap.size+1) Z63
 O:SAt wl ob (stC { s with b:=z2n t s.b (s.W.take k) } (J1 A (z0w t (s.W.take k)).length C))
 below:Bl w wl
 size:B<=wl.heap.size
theorem q3J.over{s:St}{t:Int}{B ob:Nat}{w:World}{k:Nat}{A:Option Addr}{C:Nat}{A':Option Addr}{C':Nat}{wl w':World}(h:q3J s t B ob w k A C A' C' wl)(a:Bl wl w'):q3J s t B ob w k A C A' C' w':=
 ⟨h.own9.over a,h.own10.over a,h.apart,h.R.later a h.R.lt,h.O.later a h.O.lt,zbt h.below a,Nat.le_trans h.size a.size⟩
theorem q3J.left{s:St}{t:Int}{B ob:Nat}{w:World}{k:Nat}{A:Option Addr}{C:Nat}{A':Option Addr}{C':Nat}{wl w':World}(h:q3J s t B ob w k A C A' C' wl){x:Wt}(d:s.W[k]?=some x)(hd:z2O t x=false)(n:ob<B)(r:w.heap.size+1<ob){g D:Nat}(o:SAt w' ob (stC { s with b:=z2n t s.b (s.W.take k) } (J1 A (z0w t (s.W.take k)).length C)))
  (h1:z1k B w' (some ⟨g,0,none⟩) D (z0w t (s.W.take k) ++ [x])) (e:Below B wl w') (p:∀ k',k'<wl.heap.size->some k'≠(Value.slice A (z0w t (s.W.take k)).length C).ownBlock->g≠k'/\w'.heap[k']?=wl.heap[k']?) :
  q3J s t B ob w (k+1) (some ⟨g,0,none⟩) D A' C' (w'.setCell ⟨ob,61,none⟩ (J1 (some ⟨g,0,none⟩) ((z0w t (s.W.take k)).length+1) D)):=by
 have i:z0w t (s.W.take (k+1))=z0w t (s.W.take k) ++ [x]:=by rw[z0K d,z2M,if_neg (by simp[hd])]
 have j:z0D t (s.W.take (k+1))=z0D t (s.W.take k):=by unfold z0D;rw[z0K d,z2u,if_neg (by simp[hd])]
 have q:z2n t s.b (s.W.take (k+1))=z2n t s.b (s.W.take k):=by rw[z0K d,z3Z,if_neg (by simp[hd])]
 have a:=(But.refl ob w').set 61 (J1 (some ⟨g,0,none⟩) ((z0w t (s.W.take k)).length+1) D);have l:∀ k',(Value.slice A' (z0D t (s.W.take k)).length C').ownBlock=some k'->g≠k'/\w'.heap[k']?=wl.heap[k']?:=fun k' c=>p k' (World.ownsRow.lt h.own10 k' c).2 fun f=>h.apart k' f.symm c.symm;have m:=o.set 61 (J1 (some ⟨g,0,none⟩) ((z0w t (s.W.take k)).length+1) D);rw[z6G]at m;refine⟨by rw[i];exact z0n h1 fun k' c=>a.block _ (by have:=(World.ownsRow.lt h1 k' c).1;omega),by rw[j];exact z0n h.own10 fun k' c=>(a.block _ (by have:=(World.ownsRow.lt h.own10 k' c).1;omega)).trans (l k' c).2,?_,a.z0I (by omega) ((e.block _ (by omega)).trans h.R),by rw[q,i,List.length_append];exact m,(h.below.trans (e.mono (by omega))).trans (a.below (by omega)),by simp;exact Nat.le_trans h.size e.size⟩
 rw[j];intro k' c f;cases c;exact (l g f.symm).1 rfl
theorem q3J.paid{s:St}{t:Int}{B ob:Nat}{w:World}{k:Nat}{A:Option Addr}{C:Nat}{A':Option Addr}{C':Nat}{wl w':World}(j:z1k B wl A C (z0w t (s.W.take k)))
  (e:∀ k',(Value.slice A (z0w t (s.W.take k)).length C).ownBlock=some k'->some k'≠(Value.slice A' (z0D t (s.W.take k)).length C').ownBlock) (n:SAt wl (w.heap.size+1) Z63) (o:SAt wl ob (stC { s with b:=z2n t s.b (s.W.take (k+1)) } (J1 A (z0w t (s.W.take k)).length C))) (c:Bl w wl) (f:B<=wl.heap.size)
  {x:Wt} (l:s.W[k]?=some x) (hd:z2O t x=true) (h:ob<B) (u:w.heap.size+1<ob) {g D:Nat}
  (h1:z5W B w' (some ⟨g,0,none⟩) D (z0D t (s.W.take k) ++ [x.num])) (d:Below B wl w') (p:∀ k',k'<wl.heap.size->some k'≠(Value.slice A' (z0D t (s.W.take k)).length C').ownBlock->g≠k'/\w'.heap[k']?=wl.heap[k']?):q3J s t B ob w (k+1) A C (some ⟨g,0,none⟩) D w':=by
 have i:z0w t (s.W.take (k+1))=z0w t (s.W.take k):=by rw[z0K l,z2M,if_pos hd]
 have q:z0D t (s.W.take (k+1))=z0D t (s.W.take k) ++ [x.num]:=by unfold z0D;rw[z0K l,z2u,if_pos hd,List.map_append];rfl
 have m:∀ k',(Value.slice A (z0w t (s.W.take k)).length C).ownBlock=some k'->g≠k'/\w'.heap[k']?=wl.heap[k']?:=fun k' a=>p k' (World.ownsRow.lt j k' a).2 (e k' a);refine⟨by rw[i];exact z0n j fun k' a=>(m k' a).2,by rw[q];exact h1,?_,(d.block _ (by omega)).trans n,by rw[i];exact (d.block _ h).trans o,c.trans (d.mono (by omega)),Nat.le_trans f d.size⟩
 rw[i];intro k' a r;cases r;exact (m g a).1 rfl
theorem z9p(s:St)(ao:Option Addr)(sb so c:Nat)(t:Int)(w:World)(hW:z1R w ao sb so s.W)(hg:z0j s=true) :
  Calls prog 49 #[J4 (stC s (J1 ao s.W.length c)),.int .i64 t] w fun e w'=>∃ A C A' C',e=.returned (.tuple #[J4 (stC (z3e s t) (J1 A (z3e s t).W.length C)),J1 A' (z0D t s.W).length C',.int .i64 0])/\z1k w.heap.size w' A C (z3e s t).W/\z5W w.heap.size w' A' C' (z0D t s.W)/\Bl w w':=by
 have SS:=(SAt.new w (stC s (J1 ao s.W.length c))).alloc (J5 Z63 32);have RR:=SAt.new2 w (J5 (stC s (J1 ao s.W.length c)) 32) Z63;have HB:Hid (Bl w ((w.alloc (J5 (stC s (J1 ao s.W.length c)) 32)).alloc (J5 Z63 32))):=(znw w _).alloc (by simp) _
 have HW:=J6 hW;have hG:=fun w h=>z4O s ao sb so c w h;rw[hg]at hG;have d4:s.W.length<=60:=((z0S s).1 hg).2.2.2.1;have a0:=fun k x hx hd w=>(z9E hg t (k:=k) (x:=x) hx hd) ▸ q5b (z2n t s.b (s.W.take k)) x.d x.amt w;clear hW hg
 go_enter func49,ntmps49
 go_upto_region 1 with fail
 change Code.wp prog _ _ _ ((w.alloc (J5 (stC s (J1 ao s.W.length c)) 32)).alloc (J5 Z63 32));generalize (w.alloc (J5 (stC s (J1 ao s.W.length c)) 32)).alloc (J5 Z63 32)=w0 at *;apply wp_region_lit;refine wpList_load_mid rfl 32 _ rfl _ 0 rfl _ _ SS.range underlying32 rfl (by rw[z0l];rfl) ?_
 go_upto_region 3 with (go_at_call 91;refine (hG _ (by exact HW.out.over HB.out)).mono ?_;rintro e w1⟨rfl,h1⟩)
 have a1:=J6 (zbt HB.out h1);have S1:=SS.later h1 SS.lt;have R1:=RR.later h1 RR.lt;have d8:w.heap.size+1<w1.heap.size:=R1.lt;clear SS RR h1 HB hG;apply wp_region_lit;refine wpList_load_mid rfl 32 _ rfl _ 0 rfl _ _ S1.range underlying32 rfl (by rw[z0l];rfl) ?_
 go_step
 go_step
 refine (q7s s ao sb so c _ (by exact HW.out.over a1.out)).mono ?_
 rintro e w6⟨A0,C0,g0,rfl,_,_,T⟩;dsimp only;have S6:=S1.later T S1.lt;have R6:=R1.later T R1.lt;have a5:=J6 (a1.out.trans (T.mono (by omega)))
 have d9:w.heap.size+1<w6.heap.size:=R6.lt;clear T S1 R1 a1
 iterate 4 go_step
 refine wpList_store_mid rfl 32 _ _ rfl _ 0 (stC s (J1 A0 s.W.length C0)) rfl rfl ((SAt.new w6 Z63).there 0 _ (by rw[z0p,z0d];omega)) (by rw[z0l];rfl) (z0q _ _ _ _) ?_
 change wpList prog _ _ _ _ ((w6.alloc (J5 Z63 32)).setCells w6.heap.size 0 (stC s (J1 A0 s.W.length C0)).toList);have U:=(SAt.new w6 Z63).z0C (ds:=(stC s (J1 A0 s.W.length C0))) rfl;have S7:SAt ((w6.alloc (J5 Z63 32)).setCells w6.heap.size 0 (stC s (J1 A0 s.W.length C0)).toList) w.heap.size (stC s (J1 ao s.W.length c)):=(z0f (by omega) _ _ _).trans (S6.alloc _)
 have R7:SAt ((w6.alloc (J5 Z63 32)).setCells w6.heap.size 0 (stC s (J1 A0 s.W.length C0)).toList) (w.heap.size+1) Z63:=(z0f (by omega) _ _ _).trans (R6.alloc _)
 have Q:=J6 (z0b (b:=w6.heap.size) (by omega) (stC s (J1 A0 s.W.length C0)).toList 0 _ (a5.out.alloc (by omega) (J5 Z63 32)))
 generalize (w6.alloc (J5 Z63 32)).setCells w6.heap.size 0 (stC s (J1 A0 s.W.length C0)).toList=w7 at *;have e0:w6.heap.size<w7.heap.size:=U.lt;have c8:=(z0g U).2.2.2.2.2.2.2.1;have c9:=U.free 61;clear S6 R6 a5
 go_upto_region 5 with fail
 have O8:=U.set 61 (J1 none 0 0);rw[z6G]at O8;have o:=(But.refl w6.heap.size w7).set 61 (J1 none 0 0);have S8:=o.z0I (by omega) S7
 have R8:=o.z0I (by omega) R7
 have a6:=J6 (Q.out.trans (o.below (by omega)))
 generalize w7.setCell ⟨w6.heap.size,61,none⟩ (J1 none 0 0)=w8 at *;have e1:w6.heap.size<w8.heap.size:=O8.lt;have d5:w.heap.size<w8.heap.size:=by omega
 have x7:=(z0g S8).2.2.2.2.2.2.2.1;have a7:Hid (q3J s t w8.heap.size w6.heap.size w 0 none 0 none 0 w8):=⟨⟨rfl,.inl ⟨rfl,rfl⟩⟩,⟨rfl,.inl ⟨rfl,rfl⟩⟩,fun k' h=>(by cases h),R8,O8,a6.out,Nat.le_refl _⟩
 clear U S7 R7 Q c8 c9 o S8 R8 a6 O8;have K:=HW.out.adr
 go_upto_region 7 with fail
 go_loopw [8,21] (fun d0 i wl=>∃ (k:Nat) (A:Option Addr) (C:Nat) (A':Option Addr) (C':Nat),k<=s.W.length/\i=.int .i64 (k:Int)/\d0=J1 A' (z0D t (s.W.take k)).length C'/\Hid (q3J s t w8.heap.size w6.heap.size w k A C A' C' wl)) (fun _ i _=>s.W.length - (intOf i).toNat)
 case atStart=>exact⟨0,none,0,none,0,Nat.zero_le _,rfl,rfl,a7⟩
 case round =>
  obtain⟨k,A,C,A',C',V,rfl,rfl,P⟩:=hrel;have e2:=P.out.size;clear a7 x7
  by_cases d1:k<s.W.length
  ·obtain⟨x,hx,_⟩:=drop_at d1;obtain⟨c0,c1,c2,c3,c4,c5,c6,c7⟩:=(HW.out.over P.out.below).cell k x hx;obtain rfl:=K (by omega)
   have h9:(z0w t (s.W.take k)).length<=60:=Nat.le_trans (List.length_filter_le _ _) (by rw[List.length_take];omega)
   have e3:(z0D t (s.W.take k)).length<=60:=by unfold z0D;rw[List.length_map];exact Nat.le_trans (List.length_filter_le _ _) (by rw[List.length_take];omega)
   have a8:=a0 k x hx;have X:=J6 hx;clear K a0 hx;have Y:YAt (wr.alloc (J5 #[.int .i64 x.num,.int .i64 x.d,.int .i64 x.v,.int .i64 x.amt,.int .i64 x.hei,.int .i64 x.due,.int .i64 x.h0,.int .i64 x.h1] 127)) wr.heap.size x:=heap_alloc_new _ _;have y:=J6 (P.out.over (znw wr (J5 #[.int .i64 x.num,.int .i64 x.d,.int .i64 x.v,.int .i64 x.amt,.int .i64 x.hei,.int .i64 x.due,.int .i64 x.h0,.int .i64 x.h1] 127)));have e4:wr.heap.size<(wr.alloc (J5 #[.int .i64 x.num,.int .i64 x.d,.int .i64 x.v,.int .i64 x.amt,.int .i64 x.hei,.int .i64 x.due,.int .i64 x.h0,.int .i64 x.h1] 127)).heap.size:=Y.lt
   go_upto_region 9 with fail
   generalize wr.alloc (J5 #[.int .i64 x.num,.int .i64 x.d,.int .i64 x.v,.int .i64 x.amt,.int .i64 x.hei,.int .i64 x.due,.int .i64 x.h0,.int .i64 x.h1] 127)=wq at *;clear c0 c1 c2 c3 c4 c5 c6 c7 P;have e5:=y.out.size
   by_cases a9:x.due<=t
   ·by_cases F:x.h0=0
    ·by_cases S:x.h1=0
     ·have H:Hid (z2O t x=true):=by show z2O t x=true;simp[z2O,a9,F,S]
      have b4:=a8 H.out;have b5:(x.h0 == 0)=true:=by simp[F]
      have d6:(x.h1 == 0)=true:=by simp[S]
      clear a8 F S;obtain⟨c0,c1,c2,c3,c4,c5,c6,c7⟩:=Y.cells;obtain⟨x0,x1,x2,x3,x4,x5,x6,_,_⟩:=z0g y.out.O;simp only at x0 x1 x2 x3 x4 x5 x6;have a2:=y.out.O.lt
      go_upto_region 11 with (go_at_call 100;refine (b4 _).mono ?_;rintro e wz⟨rfl,T⟩;have f:=J6 (y.out.over T);have Y6:=Y.later T Y.lt;clear x0 x1 x2 x3 x4 x5 x6;obtain⟨x0,x1,x2,x3,x4,x5,x6,_,_⟩:=z0g f.out.O;have f0:=f.out.O.free 0;have f1:=f.out.O.free 1;have f2:=f.out.O.free 2;have f3:=f.out.O.free 3;have f4:=f.out.O.free 4;have f5:=f.out.O.free 5;have f6:=f.out.O.free 6;have d7:=f.out.O.lt;clear T)
      change Code.wp prog _ _ _ (z3F wz w6.heap.size (z2n t s.b (s.W.take (k+1))));have o:But w6.heap.size wz (z3F wz w6.heap.size (z2n t s.b (s.W.take (k+1)))):=(((((((But.refl _ _).set 0 _).set 1 _).set 2 _).set 3 _).set 4 _).set 5 _).set 6 _;have U:=z4a f.out.O (z2n t s.b (s.W.take (k+1)));have R7:=o.z0I (by omega) f.out.R
      have Y7:YAt (z3F wz w6.heap.size (z2n t s.b (s.W.take (k+1)))) wr.heap.size x:=(o.block _ (by omega)).trans Y6
      have L:Hid (z1k w8.heap.size (z3F wz w6.heap.size (z2n t s.b (s.W.take (k+1)))) A C (z0w t (s.W.take k))):=z0n f.out.own9 fun k' V=>o.block _ (by have:=(World.ownsRow.lt f.out.own9 k' V).1;omega)
      have z:Hid (z5W w8.heap.size (z3F wz w6.heap.size (z2n t s.b (s.W.take (k+1)))) A' C' (z0D t (s.W.take k))):=z0n f.out.own10 fun k' V=>o.block _ (by have:=(World.ownsRow.lt f.out.own10 k' V).1;omega)
      have Q:=J6 (f.out.below.trans (o.below (by omega)))
      have d2:=J6 f.out.apart;generalize z3F wz w6.heap.size (z2n t s.b (s.W.take (k+1)))=w9 at *;clear c0 c1 c2 c3 c4 c5 c6 c7 x0 x1 x2 x3 x4 x5 x6 f0 f1 f2 f3 f4 f5 f6 o f Y6 y Y;have c0:=Y7.cells.1;have e6:=Y7.lt;have b6:w8.heap.size<=w9.heap.size:=by omega
      have b7:=J6 U;have b9:=J6 R7;clear U R7
      go_wp2_with (at_builtin;refine z5u rfl rfl _ _ rfl w8.heap.size A' C' w9.heap.size (z0D t (s.W.take k)) x.num rfl rfl (by exact z.out.over (znw w9 _)) (by omega) (by simp;omega) (by rw[World.cell?_alloc_at _ _ _ _ rfl];rfl) ?_;rintro g D G⟨l,a3,a4,a,m⟩;have p:=J6 l;have q:=J6 a;have r:=J6 m;clear l a m)
      have M:=(Below.refl w9.heap.size w9).alloc (Nat.le_refl _) (J5 #[.int .i64 x.num] 3);have B:=J6 (q3J.paid (L.out.over M) d2.out (b9.out.later M b9.out.lt) (b7.out.later M b7.out.lt) (Q.out.trans (M.mono (by omega))) (Nat.le_trans b6 M.size) X.out H.out (by omega) (by omega) p.out q.out r.out)
      have E:=z9I X.out H.out;exact⟨⟨k+1,A,C,some ⟨g,0,none⟩,D,by omega,by go_num,by rw[E.2],B⟩,by simp[intOf];omega⟩
     ·have H:Hid (z2O t x=false):=by show z2O t x=false;simp[z2O,S]
      have b5:(x.h0 == 0)=true:=by simp[F]
      clear F;obtain⟨c0,c1,c2,c3,c4,c5,c6,c7⟩:=Y.cells;have x7:=(z0g y.out.O).2.2.2.2.2.2.2.1;have a2:=y.out.O.lt
      go_wp2_with (at_builtin;refine z2L rfl rfl _ _ rfl w8.heap.size A C wq.heap.size (z0w t (s.W.take k)) x rfl rfl (by exact y.out.own9.over (znw wq _)) (by omega) (by simp;omega) (by exact fun j u hj=>z7S wq x _ j u hj) ?_;rintro g D G⟨l,a3,a4,a,m⟩;have n:SAt G w6.heap.size (stC { s with b:=z2n t s.b (s.W.take k) } (J1 A (z0w t (s.W.take k)).length C)):=(a.block _ (by omega)).trans (y.out.O.alloc _);have z7:=(z0g n).2.2.2.2.2.2.2.1;have fz:=n.free 61;have Z:=n.lt;have p:=J6 l;have q:=J6 a;have r:=J6 m;have N:=J6 n;clear l a m n)
      have E:=z4m X.out H.out;have B:=J6 ((y.out.over (znw wq (J5 #[.int .i64 x.num,.int .i64 x.d,.int .i64 x.v,.int .i64 x.amt,.int .i64 x.hei,.int .i64 x.due,.int .i64 x.h0,.int .i64 x.h1] 127))).left X.out H.out (by omega) (by omega) N.out p.out q.out r.out)
      exact⟨⟨k+1,some ⟨g,0,none⟩,D,A',C',by omega,by go_num,by rw[E.2],B⟩,by simp[intOf];omega⟩
    ·have H:Hid (z2O t x=false):=by show z2O t x=false;simp[z2O,F]
     obtain⟨c0,c1,c2,c3,c4,c5,c6,c7⟩:=Y.cells;have x7:=(z0g y.out.O).2.2.2.2.2.2.2.1;have a2:=y.out.O.lt
     go_wp2_with (at_builtin;refine z2L rfl rfl _ _ rfl w8.heap.size A C wq.heap.size (z0w t (s.W.take k)) x rfl rfl (by exact y.out.own9.over (znw wq _)) (by omega) (by simp;omega) (by exact fun j u hj=>z7S wq x _ j u hj) ?_;rintro g D G⟨l,a3,a4,a,m⟩;have n:SAt G w6.heap.size (stC { s with b:=z2n t s.b (s.W.take k) } (J1 A (z0w t (s.W.take k)).length C)):=(a.block _ (by omega)).trans (y.out.O.alloc _);have z7:=(z0g n).2.2.2.2.2.2.2.1;have fz:=n.free 61;have Z:=n.lt;have p:=J6 l;have q:=J6 a;have r:=J6 m;have N:=J6 n;clear l a m n)
     have E:=z4m X.out H.out;have B:=J6 ((y.out.over (znw wq (J5 #[.int .i64 x.num,.int .i64 x.d,.int .i64 x.v,.int .i64 x.amt,.int .i64 x.hei,.int .i64 x.due,.int .i64 x.h0,.int .i64 x.h1] 127))).left X.out H.out (by omega) (by omega) N.out p.out q.out r.out)
     exact⟨⟨k+1,some ⟨g,0,none⟩,D,A',C',by omega,by go_num,by rw[E.2],B⟩,by simp[intOf];omega⟩
   ·have H:Hid (z2O t x=false):=by show z2O t x=false;simp[z2O,a9]
    obtain⟨c0,c1,c2,c3,c4,c5,c6,c7⟩:=Y.cells;have x7:=(z0g y.out.O).2.2.2.2.2.2.2.1;have a2:=y.out.O.lt
    go_wp2_with (at_builtin;refine z2L rfl rfl _ _ rfl w8.heap.size A C wq.heap.size (z0w t (s.W.take k)) x rfl rfl (by exact y.out.own9.over (znw wq _)) (by omega) (by simp;omega) (by exact fun j u hj=>z7S wq x _ j u hj) ?_;rintro g D G⟨l,a3,a4,a,m⟩;have n:SAt G w6.heap.size (stC { s with b:=z2n t s.b (s.W.take k) } (J1 A (z0w t (s.W.take k)).length C)):=(a.block _ (by omega)).trans (y.out.O.alloc _);have z7:=(z0g n).2.2.2.2.2.2.2.1;have fz:=n.free 61;have Z:=n.lt;have p:=J6 l;have q:=J6 a;have r:=J6 m;have N:=J6 n;clear l a m n)
    have E:=z4m X.out H.out;have B:=J6 ((y.out.over (znw wq (J5 #[.int .i64 x.num,.int .i64 x.d,.int .i64 x.v,.int .i64 x.amt,.int .i64 x.hei,.int .i64 x.due,.int .i64 x.h0,.int .i64 x.h1] 127))).left X.out H.out (by omega) (by omega) N.out p.out q.out r.out)
    exact⟨⟨k+1,some ⟨g,0,none⟩,D,A',C',by omega,by go_num,by rw[E.2],B⟩,by simp[intOf];omega⟩
  ·obtain rfl:k=s.W.length:=by omega
   clear a0 K;rw[List.take_length];have HR:=J6 P.out.R;have O1:=P.out.O;have L:=J6 P.out.own9;have z:=J6 P.out.own10;have d3:=J6 P.out.below;clear P;rw[List.take_length]at L z O1;have S9:SAt wr w6.heap.size (stC (z3e s t) (J1 A (z0w t s.W).length C)):=O1;have R8:=HR.out;clear O1
   go_upto_region 14 with fail
   apply wp_region_lit;refine wpList_load_mid rfl 32 _ rfl _ 0 rfl _ _ S9.range underlying32 rfl (by rw[z0l];rfl) ?_
   refine z1O rfl _ rfl ?_;refine wpList_store_mid rfl 32 _ _ rfl _ 0 (stC (z3e s t) (J1 A (z0w t s.W).length C)) rfl rfl (R8.there 0 _ (by rw[z0p,z0d];omega)) (by rw[z0l];rfl) (z0q _ _ _ _) ?_
   go_wp2;exact z2K results49 R8 rfl (z3e s t) _ _ _ _ ⟨A,C,A',C',rfl,z0U (z0n L.out fun k' V=>z0f (by have:=(World.ownsRow.lt L.out k' V).1;omega) _ _ _) (by omega),z0U (z0n z.out fun k' V=>z0f (by have:=(World.ownsRow.lt z.out k' V).1;omega) _ _ _) (by omega),z0b (by omega) _ _ _ d3.out⟩ _ rfl rfl rfl rfl
end
namespace Pv
open Go.RowKit
def nP(V:Nat->Vd)(k:Nat):Int:=if (V k).jail=true then 0 else (V k).tok / 100
def ahN(n:Nat->Int)(v:Nat):Nat->Nat
 | 0=>0
 | k+1=>if n v<n k∨(n k=n v/\k<v) then ahN n v k+1 else ahN n v k
theorem q6S(n:Nat->Int)(v:Nat):∀ k,ahN n v k<=k
 | 0=>Nat.le_refl _
 | k+1=>by
  have:=q6S n v k;rw[ahN]
  split <;> omega
def q5x(n:Nat->Int):List (Int×Int):=Df.those (fun v=>decide (0<n v) && decide (ahN n v 6<4)) n 6
theorem z7E{V:Nat->Vd}(b:∀ k,k<6->0<=(V k).tok){v:Nat}(c:0<nP V v):∀ k,k<=6->ahN (nP V) v k=(z2G V k).countP (fun y=>ltP y ((v:Int),nP V v))
 | 0,_=>rfl
 | k+1,hk6=>by
  rw[ahN,z2G,z7E b c k (by omega)]
  by_cases a:(decide (0<pwr (V k)) && !(V k).jail)=true
  ·rw[if_pos a,List.countP_append,List.countP_singleton];simp only[Bool.and_eq_true,decide_eq_true_eq,Bool.not_eq_true']at a;have e:nP V k=pwr (V k):=by unfold nP pwr;rw[if_neg (by simp[a.2])]
   have hl:ltP ((k:Int),pwr (V k)) ((v:Int),nP V v)=true↔(nP V v<nP V k∨(nP V k=nP V v/\k<v)):=by
    rw[z7y,e]
    show nP V v<pwr (V k)∨(pwr (V k)=nP V v/\(k:Int)<(v:Int))↔_
    omega
   by_cases h:nP V v<nP V k∨(nP V k=nP V v/\k<v)
   ·rw[if_pos h,if_pos (hl.2 h)]
   ·rw[if_neg h,if_neg (fun d=>h (hl.1 d)),Nat.add_zero]
  ·rw[if_neg a,if_neg];simp only[Bool.and_eq_true,decide_eq_true_eq,Bool.not_eq_true']at a
   have e:nP V k=0:=by
    unfold nP;cases f:(V k).jail
    ·rw[if_neg (by simp)]
     have h0:¬ 0<pwr (V k):=fun h=>a ⟨h,f⟩;unfold pwr at h0;have:=b k (by omega)
     omega
    ·rw[if_pos rfl]
   rw[e];omega
theorem q7n{L:List Pw}(f:Srt ltP L L.length)(hd:L.Pairwise (fun a b=>a.1≠b.1))(i:Nat)(d:i<L.length):L.countP (fun y=>ltP y L[i])=i:=by
 have e:∀ (j:Nat) (c:j<L.length),ltP L[j] L[i]=decide (j<i):=fun j c=>by
  have g:∀ (a:Nat) (k:a<L.length),L.getD a pz=L[a]:=fun a k=>by simp[List.getD,k]
  rw[List.pairwise_iff_getElem]at hd
  rcases Nat.lt_trichotomy j i with h | h | h
  ·have h1:=f j i h d;rw[g j c,g i d,q0e]at h1;have h2:=hd j i c d h;rw[show decide (j<i)=true by simpa using h,z7y]
   omega
  ·subst h;rw[show decide (j<j)=false by simp,q0e]
   omega
  ·have h1:=f i j h c;rw[g j c,g i d]at h1;rw[show decide (j<i)=false by simp;omega,h1]
 have key:∀ n,n<=L.length->(L.take n).countP (fun y=>ltP y L[i])=min n i:=by
  intro n
  induction n with
  | zero=>intro _;simp
  | succ n ih =>
   intro l;rw[List.take_succ_eq_append_getElem (by omega),List.countP_append,ih (by omega),List.countP_singleton,e n (by omega)]
   by_cases h:n<i
   ·rw[if_pos (by simpa using h)];omega
   ·rw[if_neg (by simpa using h)];omega
 have:=key L.length (Nat.le_refl _);rw[List.take_length]at this;rw[this];omega
theorem z4d{L:List Pw}(f:Srt ltP L L.length)(hd:L.Pairwise (fun a b=>a.1≠b.1)){x:Pw}(g:x∈L):x∈L.take 4↔L.countP (fun y=>ltP y x)<4:=by
 obtain⟨i,c,rfl⟩:=List.getElem_of_mem g;rw[q7n f hd i c]
 constructor
 ·intro h;obtain⟨j,d,e⟩:=List.getElem_of_mem h;rw[List.getElem_take]at e;have k:j<4:=by rw[List.length_take]at d;omega
  rw[List.pairwise_iff_getElem]at hd;rw[List.length_take]at d
  rcases Nat.lt_trichotomy i j with h1 | h1 | h1
  ·omega
  ·omega
  ·exact absurd (by rw[e]) (hd j i (by omega) c h1)
 ·intro h;refine List.mem_iff_getElem.2 ⟨i,by rw[List.length_take];omega,by rw[List.getElem_take]⟩
theorem q6d{V:Nat->Vd}(q:∀ k,k<6->0<=(V k).tok)(o:∀ k,k<6->(V k).tok<=1125899906842624):q5x (nP V)=z4Y V:=by
 have f:(z1D ltP (z2G V 6)).Pairwise (fun a b=>a.1≠b.1):=(z1g ltP (z2G V 6)).symm.pairwise (z3p V 6) (fun h=>h.symm);have d:=z8e j1h (z2G V 6);have g:(z1D ltP (z2G V 6)).length=(z2G V 6).length:=(z1g ltP _).length_eq;rw[<- g]at d
 have hmem:∀ x,x∈q5x (nP V)↔x∈z4Y V:=fun x=>by
  unfold q5x;rw[z4u,q2V]
  constructor
  ·rintro⟨i,p,j,rfl⟩;simp only[Bool.and_eq_true,decide_eq_true_eq]at j
   have n:(V i).jail=false:=by
    cases h:(V i).jail
    ·rfl
    ·have:=j.1;unfold nP at this;rw[if_pos h]at this;omega
   have e:nP V i=pwr (V i):=by unfold nP pwr;rw[if_neg (by simp[n])]
   have c:((i:Int),nP V i)∈z1D ltP (z2G V 6):=(z1g ltP _).mem_iff.2 ((z4i V _ 6).2 ⟨i,p,by rw[e],by rw[<- e];exact j.1,n⟩)
   rw[z4d d f c,(z1g ltP (z2G V 6)).countP_eq,<- z7E q j.1 6 (Nat.le_refl _)];exact j.2
  ·intro l;have c:=List.mem_of_mem_take l;obtain⟨i,p,rfl,r,n⟩:=(z4i V x 6).1 ((z1g ltP _).mem_iff.1 c);have e:nP V i=pwr (V i):=by unfold nP pwr;rw[if_neg (by simp[n])]
   have m:0<nP V i:=by rw[e];exact r
   rw[z4d d f c,(z1g ltP (z2G V 6)).countP_eq]at l;refine⟨i,p,?_,by rw[e]⟩
   rw[z7E q m 6 (Nat.le_refl _),e];simp only[Bool.and_eq_true,decide_eq_true_eq];exact⟨r,l⟩
 have h2:=q0b o;exact z6X _ _ (-1) (-1) (z7A _ _ (fun x l=>z2i _ _ h2 x ((hmem x).1 l)) (z3D _ _ 6)) h2 hmem
end Pv
section
open Go.ChangeShapes Go.WideShapes Go.ChangeAt Go.RowKit Go.Deep
section
variable {H:Type} {enc:TypeId×Value->H} {W:World}
theorem cA:prog.cellsOf 22=4:=by kernel_rfl
theorem cB:prog.cellsOf 24=7:=by kernel_rfl
theorem cV:prog.cellsOf 26=5:=by kernel_rfl
theorem cVs:prog.cellsOf 27=30:=by kernel_rfl
theorem j0R:prog.cellsOf 28=6:=by kernel_rfl
theorem cSh:prog.cellsOf 29=24:=by kernel_rfl
theorem cWs:prog.cellsOf 30=1:=by kernel_rfl
theorem cS:prog.cellsOf 32=63:=by kernel_rfl
theorem cW:prog.cellsOf 127=8:=by kernel_rfl
theorem cH:prog.cellsOf 125=2:=by kernel_rfl
theorem open_row{m:Nat}{l:List Value}{y:DataW H×List MemPlace}(h:DataW.trod enc prog W 0 (fun _=>true) true m 28 l=some y):∃ r:Nat->Int,l=(q9Z r).toList:=by
 obtain⟨g,rfl⟩:=open_arr 0 (fun b:Int=>[.int .i64 b]) underlying28 (by rw[j0R,cI]) h z0P
 exact⟨g,rfl⟩
theorem q5l{m:Nat}{l:List Value}{y:DataW H×List MemPlace}(h:DataW.trod enc prog W 0 (fun _=>true) true m 29 l=some y):∃ S:Nat->Nat->Int,l=(shC S).toList:=by
 obtain⟨g,rfl⟩:=open_arr (fun _=>0) (fun r:Nat->Int=>(q9Z r).toList) underlying29 (by rw[cSh,j0R]) h open_row
 exact⟨g,rfl⟩
theorem q8p{m:Nat}{l:List Value}{y:DataW H×List MemPlace}(h:DataW.trod enc prog W 0 (fun _=>true) true m 125 l=some y):∃ a b:Int,l=[.int .i64 a,.int .i64 b]:=by
 obtain⟨g,rfl⟩:=open_arr 0 (fun b:Int=>[.int .i64 b]) underlying125 (by rw[cH,cI]) h z0P
 exact⟨g 0,g 1,rfl⟩
theorem q7H{m:Nat}{l:List Value}{y:DataW H×List MemPlace}(h:DataW.trod enc prog W 0 (fun _=>true) true m 22 l=some y):∃ g:Nat->Int,l=[.int .i64 (g 0),.int .i64 (g 1),.int .i64 (g 2),.int .i64 (g 3)]:=by
 obtain⟨g,rfl⟩:=open_arr 0 (fun b:Int=>[.int .i64 b]) underlying22 (by rw[cA,cI]) h z0P
 exact⟨g,rfl⟩
theorem parts{α:Type}{l:List α}{o n:Nat}:l.drop o=(l.drop o).take n ++ l.drop (o+n):=by
 rw[<- List.drop_drop,List.take_append_drop]
theorem q7e{m:Nat}{l:List Value}{y:DataW H×List MemPlace}(h:DataW.trod enc prog W 0 (fun _=>true) true m 26 l=some y):∃ x:Vd,l=(vdC x).toList:=by
 obtain⟨q,n,_,_,hl,b,a⟩:=DataW.trod_struct underlying26 h;rw[cV]at hl
 match l,hl with
 | [a0,a1,a2,a3,a4],_ =>
  match q,b with
  | [y0,y1,y2,y3,y4],_ =>
   have c:=a 0 _ rfl;have d:=a 1 _ rfl;have e:=a 2 _ rfl;have f:=a 3 _ rfl;have g:=a 4 _ rfl
   simp[cI,cT]at c d e f g
   obtain⟨q0,i⟩:=z0P c;obtain⟨q1,j⟩:=z0P d;obtain⟨q2,k⟩:=z0P e;obtain⟨q3,o⟩:=z6m f;obtain⟨r,p⟩:=z6m g
   simp at i j k o p
   subst i j k o p;exact⟨⟨q0,q1,q2,q3,r⟩,rfl⟩
theorem q6g{m:Nat}{l:List Value}{y:DataW H×List MemPlace}(h:DataW.trod enc prog W 0 (fun _=>true) true m 27 l=some y):∃ V:Nat->Vd,l=(vsC V).toList:=by
 obtain⟨g,rfl⟩:=open_arr ⟨0,0,0,false,false⟩ (fun x:Vd=>(vdC x).toList) underlying27 (by rw[cVs,cV]) h q7e
 exact⟨g,rfl⟩
theorem q6Z{m:Nat}{l:List Value}{y:DataW H×List MemPlace}(h:DataW.trod enc prog W 0 (fun _=>true) true m 24 l=some y):∃ b:Bk,l=(bkC b).toList:=by
 obtain⟨u,n,_,_,hl,c,a⟩:=DataW.trod_struct underlying24 h;rw[cB]at hl
 match l,hl with
 | [a0,a1,a2,a3,a4,a5,a6],_ =>
  match u,c with
  | [y0,y1,y2,y3],_ =>
   have j:=a 0 _ rfl;have k:=a 1 _ rfl;have o:=a 2 _ rfl;have p:=a 3 _ rfl
   simp[cI,cA]at j k o p
   obtain⟨g,q⟩:=q7H j;obtain⟨q1,r⟩:=z0P k;obtain⟨q2,s⟩:=z0P o;obtain⟨q3,t⟩:=z0P p
   simp at q r s t
   obtain⟨d,e,f,i⟩:=q;subst d e f i r s t;exact⟨⟨g 0,g 1,g 2,g 3,q1,q2,q3⟩,rfl⟩
theorem q7N{m:Nat}{l:List Value}{y:DataW H×List MemPlace}(h:DataW.trod enc prog W 0 (fun _=>true) true m 127 l=some y):∃ x:Wt,l=(wtC x).toList:=by
 obtain⟨u,n,_,_,hl,c,a⟩:=DataW.trod_struct underlying127 h;rw[cW]at hl
 match l,hl with
 | [a0,a1,a2,a3,a4,a5,a6,a7],_ =>
  match u,c with
  | [y0,y1,y2,y3,y4,y5,y6],_ =>
   have d:=a 0 _ rfl;have e:=a 1 _ rfl;have f:=a 2 _ rfl;have g:=a 3 _ rfl;have i:=a 4 _ rfl;have j:=a 5 _ rfl;have k:=a 6 _ rfl
   simp[cI,cH]at d e f g i j k
   obtain⟨q0,o⟩:=z0P d;obtain⟨q1,p⟩:=z0P e;obtain⟨q2,q⟩:=z0P f;obtain⟨q3,r⟩:=z0P g;obtain⟨v,s⟩:=z0P i;obtain⟨w,t⟩:=z0P j;obtain⟨z,A,b⟩:=q8p k
   simp at o p q r s t b
   obtain⟨b,B⟩:=b;subst o p q r s t b B;exact⟨⟨q0,q1,q2,q3,v,w,z,A⟩,rfl⟩
theorem q8Q:prog.bytesOf 127=64:=by kernel_rfl
theorem q5y{r:Reach}{b0:Nat}{v:Value}{d:DataW H}{p:List MemPlace}(a:Value.okWide prog W r b0 3 v)(h:DataW.Trod enc prog W 0 (fun _=>true) true 3 v d p):∃ n:Int,v=.int .i64 n:=by
 obtain⟨n,e,_⟩:=open_int underlying3 a h;exact⟨n,e⟩
end
end
namespace Pv
open Go.ChangeShapes Go.WideShapes Go.ChangeAt Go.RowKit Go.Deep
section
variable {H:Type} {enc:TypeId×Value->H} {W:World}
theorem cAs:prog.cellsOf 79=7:=by kernel_rfl
theorem j1v:prog.cellsOf 45=1:=by kernel_rfl
theorem cMe:prog.cellsOf 44=2:=by kernel_rfl
theorem cLk:prog.cellsOf 41=14:=by kernel_rfl
theorem j0U:prog.cellsOf 42=28:=by kernel_rfl
theorem cPv:prog.cellsOf 47=97:=by kernel_rfl
theorem yAs:prog.bytesOf 79=88:=by kernel_rfl
theorem q7K{m:Nat}{l:List Value}{y:DataW H×List MemPlace}(h:DataW.trod enc prog W 0 (fun _=>true) true m 79 l=some y)(j:∀ x∈DataW.weights prog 79 y.1,x<=reachBytes):∃ b:(Int×Pkt)×(Value×Value),l=akL b.1 b.2/\(Rep (fun _=>True) W b.2.1 2 16 (pwC b.1.2.S)/\Rep (fun _=>True) W b.2.2 1 8 (inC b.1.2.D)):=by
 obtain⟨k,n,_,c,hl,d,a⟩:=DataW.trod_struct underlying79 h;rw[cAs]at hl
 match l,hl with
 | [a0,a1,a2,a3,a4,a5,a6],_ =>
  match k,d with
  | [y0,y1],_ =>
   have e:=a 0 _ rfl;have f:=a 1 _ rfl
   simp[cI,cPk]at e f
   subst c;have w1:∀ x∈DataW.weights prog 49 y1.1,x<=reachBytes:=fun x a=>j x (by simp[DataW.weights,underlying79,DataW.weightsEach,a])
   obtain⟨q0,g⟩:=z0P e;obtain⟨x,u,i,r1,r2⟩:=q7x f w1
   simp at g i
   obtain⟨f1,f2,f3,o,p,q⟩:=i;subst g f1 f2 f3 o p q;exact⟨((q0,x),u),rfl,r1,r2⟩
theorem q0v:∀ L:List ((Int×Pkt)×(Value×Value)),L.flatMap (fun b=>akL b.1 b.2)=quL (L.map (·.1)) (L.map (·.2))
 | []=>rfl
 | a :: L=>by rw[List.flatMap_cons,q0v L];rfl
theorem q3A{m:Nat}{l:List Value}{y:DataW H×List MemPlace}(h:DataW.trod enc prog W 0 (fun _=>true) true m 45 l=some y)(d:∀ x∈DataW.weights prog 45 y.1,x<=reachBytes):∃ (q:List (Int×Pkt)) (v:Value),l=[v]/\q4T (fun _=>True) W v q/\q.length * 88<=140737488351232:=by
 obtain⟨L,v,e,g,hq,hl⟩:=z4c ((0,⟨0,0,0,0,[],[]⟩),(J1 none 0 0,J1 none 0 0)) (fun b:(Int×Pkt)×(Value×Value)=>akL b.1 b.2) (fun b=>Rep (fun _=>True) W b.2.1 2 16 (pwC b.1.2.S)/\Rep (fun _=>True) W b.2.2 1 8 (inC b.1.2.D)) underlying45 cAs yAs (fun _=>rfl) (by decide) h d (fun h d=>q7K h d)
 rw[q0v]at g;refine⟨L.map (·.1),v,e,⟨L.map (·.2),by simp,?_,fun i x y a c=>?_⟩,by simpa using hl⟩
 ·obtain⟨A,n,C,h1,h2,h3,j,k⟩:=g;exact⟨A,n,C,h1,h2,by omega,j,k⟩
 ·rw[List.getElem?_map]at a c
  rcases f:L[i]? with _ | b
  ·rw[f]at a;simp at a
  ·rw[f]at a c
   simp at a c
   subst a c;exact hq b (List.mem_of_getElem? f)
theorem q8q{m:Nat}{l:List Value}{y:DataW H×List MemPlace}(h:DataW.trod enc prog W 0 (fun _=>true) true m 41 l=some y)(b:∀ x∈DataW.weights prog 41 y.1,x<=reachBytes):∃ (x:Lk) (u:LkV),l=lkL x u/\z5Z (fun _=>True) W x u:=by
 obtain⟨E,n,_,d,hl,e,a⟩:=DataW.trod_struct underlying41 h;rw[cLk]at hl
 match l,hl with
 | [a0,a1,a2,a3,a4,a5,a6,a7,a8,a9,a10,a11,a12,a13],_ =>
  match E,e with
  | [y0,y1,y2,y3,y4,y5,y6,y7],_ =>
   have f:=a 0 _ rfl;have g:=a 1 _ rfl;have i:=a 2 _ rfl;have j:=a 3 _ rfl;have k:=a 4 _ rfl;have o:=a 5 _ rfl;have p:=a 6 _ rfl;have q:=a 7 _ rfl
   simp[cI,cT,j0D,cIs,cLn,cHd]at f g i j k o p q
   subst d;have F:∀ x∈DataW.weights prog 33 y3.1,x<=reachBytes:=fun x a=>b x (by simp[DataW.weights,underlying41,DataW.weightsEach,a])
   have w5:∀ x∈DataW.weights prog 34 y5.1,x<=reachBytes:=fun x a=>b x (by simp[DataW.weights,underlying41,DataW.weightsEach,a])
   have w6:∀ x∈DataW.weights prog 37 y6.1,x<=reachBytes:=fun x a=>b x (by simp[DataW.weights,underlying41,DataW.weightsEach,a])
   obtain⟨q0,r⟩:=z6m f;obtain⟨q1,s⟩:=z6m g;obtain⟨q2,t⟩:=z0P i;obtain⟨T,u3,v,G⟩:=z9g j F;obtain⟨K,w⟩:=z6m k;obtain⟨D,u5,z,L⟩:=z7o o w5;obtain⟨M,A,B,N,P⟩:=q8n p w6;obtain⟨h0,h1,h2,h3,C⟩:=q6X q
   simp at r s t v w z B C
   obtain⟨Q,R,S,U⟩:=B;obtain⟨V,X,Y,Z⟩:=C;subst r s t v w z Q R S U V X Y Z;exact⟨⟨q0,q1,q2,T,K,D,M,h0,h1,h2,h3⟩,⟨_,_,A.1,A.2⟩,rfl,G,L,N.c,P.c⟩
theorem q2C{m:Nat}{l:List Value}{y:DataW H×List MemPlace}(h:DataW.trod enc prog W 0 (fun _=>true) true m 30 l=some y)(a:∀ x∈DataW.weights prog 30 y.1,x<=reachBytes):∃ (L:List Wt) (v:Value),l=[v]/\Rep (fun _=>True) W v 8 64 (wsL L):=by
 obtain⟨L,v,e,c,-,-⟩:=z4c ⟨0,0,0,0,0,0,0,0⟩ wtL (fun _=>True) underlying30 cW q8Q (fun _=>rfl) (by decide) h a (fun h _=>by obtain⟨b,e⟩:=q7N h;exact⟨b,e,trivial⟩)
 exact⟨L,v,e,c⟩
theorem q7p{m:Nat}{l:List Value}{y:DataW H×List MemPlace}(h:DataW.trod enc prog W 0 (fun _=>true) true m 32 l=some y)(p:∀ x∈DataW.weights prog 32 y.1,x<=reachBytes):∃ (s:St) (v:Value),l=(stC s v).toList/\Rep (fun _=>True) W v 8 64 (wsL s.W):=by
 obtain⟨r,n,_,d,hl,e,a⟩:=DataW.trod_struct underlying32 h;rw[cS]at hl
 match r,e with
 | [y0,y1,y2,y3,y4],_ =>
  have f:=a 0 _ rfl;have g:=a 1 _ rfl;have i:=a 2 _ rfl;have j:=a 3 _ rfl;have k:=a 4 _ rfl
  simp[cI,cB,cVs,cSh,cWs]at f g i j k
  subst d;have t:∀ x∈DataW.weights prog 30 y3.1,x<=reachBytes:=fun x a=>p x (by simp[DataW.weights,underlying32,DataW.weightsEach,a])
  obtain⟨b,u⟩:=q6Z f;obtain⟨V,w⟩:=q6g g;obtain⟨S,z⟩:=q5l i;obtain⟨L,v,A,B⟩:=q2C j t;obtain⟨q,C⟩:=z0P k
  have c:l=l.take 7 ++ ((l.drop 7).take 30 ++ ((l.drop 37).take 24 ++ ((l.drop 61).take 1 ++ (l.drop 62).take 1))):=by
   have D:=parts (l:=l) (o:=7) (n:=30);have E:=parts (l:=l) (o:=37) (n:=24);have F:=parts (l:=l) (o:=61) (n:=1);have G:l.drop 62=(l.drop 62).take 1:=by rw[List.take_of_length_le];rw[List.length_drop];omega
   rw[<- G,<- F,<- E,<- D]
   simp
  rw[u,w,z,A,C]at c;exact⟨⟨b,V,S,L,q⟩,v,by rw[c];rfl,B⟩
theorem q7l{m:Nat}{l:List Value}{y:DataW H×List MemPlace}(h:DataW.trod enc prog W 0 (fun _=>true) true m 44 l=some y):∃ a b:Int,l=[.int .i64 a,.int .i64 b]:=by
 obtain⟨j,n,_,_,hl,c,d⟩:=DataW.trod_struct underlying44 h;rw[cMe]at hl
 match l,hl with
 | [a0,a1],_ =>
  match j,c with
  | [y0,y1],_ =>
   have e:=d 0 _ rfl;have f:=d 1 _ rfl
   simp[cI]at e f
   obtain⟨q0,g⟩:=z0P e;obtain⟨q1,i⟩:=z0P f
   simp at g i
   subst g i;exact⟨q0,q1,rfl⟩
theorem q5d{m:Nat}{l:List Value}{y:DataW H×List MemPlace}(h:DataW.trod enc prog W 0 (fun _=>true) true m 42 l=some y)(t:∀ x∈DataW.weights prog 42 y.1,x<=reachBytes):∃ (L:Nat->Lk) (u:Nat->LkV),l=lkL (L 0) (u 0) ++ lkL (L 1) (u 1)/\∀ c,c<2->z5Z (fun _=>True) W (L c) (u c):=by
 obtain⟨v,n,_,a,hl,w,g⟩:=DataW.trod_array underlying42 h;rw[j0U]at hl;subst a
 have j:∀ i,i<2->∀ d,v[i]?=some d->∀ x∈DataW.weights prog 41 d.1,x<=reachBytes:=fun i k d hd x g=>t x (by
  simp only[DataW.weights,underlying42]
  exact z3O (d:=d.1) (List.mem_map.2 ⟨d,List.mem_of_getElem? hd,rfl⟩) x g)
 obtain⟨f,q⟩:=z6V (n:=2) (p:=fun i (b:Lk×LkV)=>(l.drop (i * 14)).take 14=lkL b.1 b.2/\z5Z (fun _=>True) W b.1 b.2) (⟨false,false,0,[],false,[],⟨[],[],0,false⟩,0,0,0,0⟩,⟨J1 none 0 0,J1 none 0 0,J1 none 0 0,J1 none 0 0⟩) (fun i k=>by
  have:=g i k;rw[cLk,List.getElem?_eq_getElem (by omega)]at this
  obtain⟨x,u,e,r⟩:=q8q this (j i k _ (List.getElem?_eq_getElem (by omega)))
  exact⟨(x,u),e,r⟩)
 refine⟨fun i=>(f i).1,fun i=>(f i).2,?_,fun c z=>(q c z).2⟩;rw[<- (q 0 (by omega)).1,<- (q 1 (by omega)).1]
 have s:=parts (l:=l) (o:=0) (n:=14);have A:l.drop 14=(l.drop 14).take 14:=by rw[List.take_of_length_le];rw[List.length_drop];omega
 simp only[Nat.zero_mul,Nat.one_mul,Nat.zero_add]at s ⊢;rw[<- A,<- s,List.drop_zero]
theorem q2K{r:Reach}{b0:Nat}{v:Value}{d:DataW H}{p:List MemPlace}(A:Value.okWide prog W r b0 47 v)(h:DataW.Trod enc prog W 0 (fun _=>true) true 47 v d p)(f:∀ x∈DataW.weights prog 47 d,x<=reachBytes) :
  ∃ (x:Pr) (u:PrV),v=J4 (prC x u)/\PIn (fun _=>True) W x u/\x.q.length * 88<=140737488351232:=by
 obtain⟨cs,rfl,b⟩:=okWide_struct underlying47 A;rw[cPv]at b;obtain⟨cs⟩:=cs;obtain⟨i,B⟩:=h;obtain⟨C,n,_,c,hl,g,a⟩:=DataW.trod_struct underlying47 B
 match C,g with
 | [y0,y1,y2,y3,y4,y5,y6],_ =>
  have j:=a 0 _ rfl;have k:=a 1 _ rfl;have m:=a 2 _ rfl;have t:=a 3 _ rfl;have w:=a 4 _ rfl;have y:=a 5 _ rfl;have z:=a 6 _ rfl
  simp[Value.cells,cI,cS,j0D,j0U,cMe,j1v]at j k m t w y z b
  simp only[Prod.mk.injEq]at c;obtain⟨rfl,_⟩:=c;have D:∀ x∈DataW.weights prog 32 y2.1,x<=reachBytes:=fun x a=>f x (by simp[DataW.weights,underlying47,DataW.weightsEach,a])
  have E:∀ x∈DataW.weights prog 33 y3.1,x<=reachBytes:=fun x a=>f x (by simp[DataW.weights,underlying47,DataW.weightsEach,a])
  have F:∀ x∈DataW.weights prog 42 y4.1,x<=reachBytes:=fun x a=>f x (by simp[DataW.weights,underlying47,DataW.weightsEach,a])
  have w6:∀ x∈DataW.weights prog 45 y6.1,x<=reachBytes:=fun x a=>f x (by simp[DataW.weights,underlying47,DataW.weightsEach,a])
  obtain⟨q0,G⟩:=z0P j;obtain⟨q1,K⟩:=z0P k;obtain⟨s,M,N,r2⟩:=q7p m D;obtain⟨set,P,Q,R⟩:=z9g t E;obtain⟨L,S,T,U⟩:=q5d w F;obtain⟨ml,mn,V⟩:=q7l y;obtain⟨q,X,Y,Z,hq⟩:=q3A z w6
  have e:cs=cs.take 1 ++ (cs.tail.take 1 ++ ((cs.drop 2).take 63 ++ ((cs.drop 65).take 1 ++ ((cs.drop 66).take 28 ++ ((cs.drop 94).take 2 ++ (cs.drop 96).take 1))))):=by
   have a1:=parts (l:=cs) (o:=1) (n:=1);have a2:=parts (l:=cs) (o:=2) (n:=63);have a3:=parts (l:=cs) (o:=65) (n:=1);have a4:=parts (l:=cs) (o:=66) (n:=28);have a5:=parts (l:=cs) (o:=94) (n:=2);have a6:cs.drop 96=(cs.drop 96).take 1:=by rw[List.take_of_length_le];rw[List.length_drop];omega
   rw[<- List.drop_one,<- a6,<- a5,<- a4,<- a3,<- a2,<- a1];exact (List.take_append_drop 1 cs).symm
  rw[G,K,N,Q,T,V,Y]at e;refine⟨⟨q0,q1,s,set,L,ml,mn,q⟩,⟨M,P,S,X⟩,?_,⟨r2,R,U,Z⟩,hq⟩;rw[e]
  simp[prC]
end
end Pv
end Go.Proofs.YtjghbciepinofaaGreat
