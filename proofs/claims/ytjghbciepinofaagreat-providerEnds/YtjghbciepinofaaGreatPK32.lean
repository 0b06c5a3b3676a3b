/- Parts of the proof. -/
import Derived.Test.YtjghbciepinofaaGreatPL
import Derived.Test.YtjghbciepinofaaGreatPK19
import Derived.Test.YtjghbciepinofaaGreatPK38
set_option maxRecDepth 100000
set_option maxHeartbeats 16000000
namespace Go.Proofs.YtjghbciepinofaaGreat
open Go.Proofs.Tryz
open Value renaming int->J,slice->J1,pointer->J2,bool->J3,agg->J4
open IntKind renaming i64->I
open Obj renaming cells->J5
namespace Pv
open Go.RowKit
structure z2N(P:Nat->Prop)(w:World)(p:Pr)(v:PrV):Prop where
 ws:Rep P w v.ws 8 64 (wsL p.s.W)
 set:Rep P w v.set 2 16 (pwC p.set)
 lk:∀ c,c<2->z5Z P w (p.L c) (v.l c)
 q:∃ A n C,v.q=J1 A n C
section
variable {P P':Nat->Prop} {w w':World} {p:Pr} {v:PrV}
theorem z2N.mono(h:z2N P w p v)(a:∀ b,b<w.heap.size->P b->P' b):z2N P' w p v:=⟨h.ws.mono a,h.set.mono a,fun c d=>(h.lk c d).mono a,h.q⟩
theorem z2N.keep(h:z2N P w p v)(a:∀ b,P b->b<w.heap.size->w'.heap[b]?=w.heap[b]?):z2N P w' p v:=⟨h.ws.keep a,h.set.keep a,fun c d=>(h.lk c d).keep a,h.q⟩
theorem z2N.over(h:z2N P w p v)(c:Bl w w'):z2N P w' p v:=h.keep fun b _ a=>c.block b a
theorem z2N.sets(h:z2N P w p v){g:Nat}(c:¬ P g)(o:Nat)(a:List Value):z2N P (w.setCells g o a) p v:=h.keep fun b d _=>z0f (show b≠g from fun e=>c (by rw[<- e];exact d)) a o w
theorem z2N.put(h:z2N P w p v){g:Nat}(a:¬ P g)(o:Nat)(x:Value):z2N P (w.setCell ⟨g,o,none⟩ x) p v:=h.keep fun b c _=>Below.heap_setCell _ _ _ _ (show b≠g from fun e=>a (by rw[<- e];exact c))
theorem z2N.z2w(h:z2N P w p v)(a:Bl w w')(k:Nat):z2N (New P w k) w' p v:=(h.mono (P':=New P w k) fun _ hl b=>.inl ⟨b,hl⟩).over a
theorem z2N.one(h:z2N P w p v):(prC p v).all (·.oneCell')=true:=by
 obtain⟨A,n,C,e,_⟩:=h.ws;have a:(stC p.s v.ws).all (·.oneCell')=true:=by rw[e];exact z0q _ _ _ _
 rw[Array.all_eq_true_iff_forall_mem]at *;obtain⟨b,nq,c,eq⟩:=h.q;intro u hu;simp only[prC,List.mem_toArray,List.mem_append,List.mem_cons,List.not_mem_nil,or_false]at hu
 rcases hu with (rfl | rfl) | hu | rfl | hu | hu | rfl | rfl | rfl
 ·rfl
 ·rfl
 ·exact a u (by simpa using hu)
 ·exact h.set.one
 ·exact z5S (h.lk 0 (by omega)) u hu
 ·exact z5S (h.lk 1 (by omega)) u hu
 ·rfl
 ·rfl
 ·rw[eq];rfl
theorem q2l(h:z2N P w p v)(k:Nat)(l:List Int)(U:Value)(h1:Rep P w U 1 8 (inC l)) :
  z2N P w { p with L:=z3d p.L k { p.L k with done:=l } } (v.upd k ⟨(v.l k).told,U,(v.l k).said,(v.l k).due⟩):=by
 refine⟨h.ws,h.set,fun c a=>?_,h.q⟩
 show z5Z P w (if c=k then _ else p.L c) (if c=k then _ else v.l c)
 by_cases e:c=k
 ·subst e;rw[if_pos rfl,if_pos rfl];have:=h.lk c a;exact⟨this.told,h1,this.said,this.due⟩
 ·rw[if_neg e,if_neg e];exact h.lk c a
end
end Pv
section
open Go.RowKit
theorem z1k.wsg{B:Nat}{w:World}{g C:Nat}{W:List Wt}(h:z1k B w (some ⟨g,0,none⟩) C W)(hl:W.length * 64<=140737488351232):z1R w (some ⟨g,0,none⟩) g 0 W:=
 z9n hl fun j v a=>by
  have:=World.ownsRow.cells h (g:=g) rfl j v a
  rwa [Addr.add_lit,Nat.zero_add]at this
theorem j0Y(w:World)(a b:Int):(Instr.index 125 (J4 #[J I a,J I b]) (J I 0)).run prog w=.ok (J I a) w:=by kernel_rfl
theorem j0T(w:World)(a b:Int):(Instr.index 125 (J4 #[J I a,J I b]) (J I 1)).run prog w=.ok (J I b) w:=by kernel_rfl
structure RQl(s:St)(L:List Wt)(B ob:Nat)(w:World)(A:Option Addr)(C:Nat)(wl:World):Prop where
 own:z1k B wl A C L
 R:SAt wl (w.heap.size+1) Z63
 O:SAt wl ob (stC s (J1 A s.W.length C))
 below:Bl w wl
theorem RQl.over{s:St}{L:List Wt}{B ob:Nat}{w:World}{A:Option Addr}{C:Nat}{wl w':World}(H:RQl s L B ob w A C wl)(a:Bl wl w'):RQl s L B ob w A C w':=
 ⟨H.own.over a,H.R.later a H.R.lt,H.O.later a H.O.lt,zbt H.below a⟩
theorem q0V(s:St)(ao:Option Addr)(sb so c:Nat)(h:Int)(w:World)(H:z1R w ao sb so s.W) :
  Calls prog 96 #[J4 (stC s (J1 ao s.W.length c)),J I 0,J I h] w fun e w'=>∃ A C,e=.returned (J4 (stC s (J1 A s.W.length C)))/\z1k w.heap.size w' A C (s.W.map (z2c 0 h))/\Bl w w':=by
 have SS:=(SAt.new w (stC s (J1 ao s.W.length c))).alloc (J5 Z63 32);have E:=SAt.new2 w (J5 (stC s (J1 ao s.W.length c)) 32) Z63;have K:Hid (Bl w ((w.alloc (J5 (stC s (J1 ao s.W.length c)) 32)).alloc (J5 Z63 32))):=(znw w _).alloc (by simp) _
 have HW:=J6 H;have q:=H.len;clear H
 go_enter func96,ntmps96
 go_upto_region 1 with fail
 change Code.wp prog _ _ _ ((w.alloc (J5 (stC s (J1 ao s.W.length c)) 32)).alloc (J5 Z63 32));generalize (w.alloc (J5 (stC s (J1 ao s.W.length c)) 32)).alloc (J5 Z63 32)=w0 at *;have a1:w.heap.size+1<w0.heap.size:=E.lt;apply wp_region_lit;refine wpList_load_mid rfl 32 _ rfl _ 0 rfl _ _ SS.range underlying32 rfl (by rw[z0l];rfl) ?_
 go_step
 go_step
 refine (z3u s ao sb so c _ (by exact HW.out.over K.out)).mono ?_
 rintro e w6⟨A,C,rfl,m,F⟩;dsimp only;have L:=E.later F E.lt;have r:=J6 (K.out.trans (F.mono (by omega)))
 have a2:w.heap.size+1<w6.heap.size:=L.lt;have a3:w0.heap.size<=w6.heap.size:=F.size;have M:Hid (∀ k,A=some ⟨k,0,none⟩->w0.heap.size+2<=k/\k<w6.heap.size):=fun k p=>World.ownsRow.lt m k (by rw[p];rfl)
 iterate 4 go_step
 refine wpList_store_mid rfl 32 _ _ rfl _ 0 (stC s (J1 A s.W.length C)) rfl rfl ((SAt.new w6 Z63).there 0 _ (by rw[z0p,z0d];omega)) (by rw[z0l];rfl) (z0q _ _ _ _) ?_
 change wpList prog _ _ _ _ ((w6.alloc (J5 Z63 32)).setCells w6.heap.size 0 (stC s (J1 A s.W.length C)).toList);have G:=(SAt.new w6 Z63).z0C (ds:=(stC s (J1 A s.W.length C))) rfl;have R7:SAt ((w6.alloc (J5 Z63 32)).setCells w6.heap.size 0 (stC s (J1 A s.W.length C)).toList) (w.heap.size+1) Z63:=(z0f (by omega) _ _ _).trans (L.alloc _)
 have t:=J6 (z0b (b:=w6.heap.size) (by omega) (stC s (J1 A s.W.length C)).toList 0 _ (r.out.alloc (by omega) (J5 Z63 32)))
 have u:Hid (z1k (w0.heap.size+2) ((w6.alloc (J5 Z63 32)).setCells w6.heap.size 0 (stC s (J1 A s.W.length C)).toList) A C s.W):=m.to fun k _ p=>(z0f (by omega) _ _ _).trans (Below.heap_alloc w6 _ k p)
 generalize (w6.alloc (J5 Z63 32)).setCells w6.heap.size 0 (stC s (J1 A s.W.length C)).toList=w7 at *;have a4:w6.heap.size<w7.heap.size:=G.lt;have y:Hid (RQl s ((s.W.take 0).map (z2c 0 h) ++ s.W.drop 0) (w0.heap.size+2) w6.heap.size w A C w7):=⟨u.out,R7,G,t.out⟩;have x7:=(z0g G).2.2.2.2.2.2.2.1;clear SS E K L r F m G R7 u t HW
 go_upto_region 3 with fail
 go_loopw [17] (fun i wl=>∃ (k:Nat),k<=s.W.length/\i=J I (k:Int)/\Hid (RQl s ((s.W.take k).map (z2c 0 h) ++ s.W.drop k) (w0.heap.size+2) w6.heap.size w A C wl)) (fun i _=>s.W.length - (intOf i).toNat)
 case atStart=>exact⟨0,Nat.zero_le _,rfl,y⟩
 case round =>
  obtain⟨k,p,rfl,l⟩:=hrel;clear y x7;have a5:=l.out.O.lt
  by_cases N:k<s.W.length
  ·obtain⟨x,hx,_⟩:=drop_at N;obtain⟨e1,P,e3⟩:=z5e ((z2c 0 h)) hx;obtain⟨g,rfl,a6,a7,_⟩:=l.out.own.holds (by omega)
   have a8:=M.out g rfl;obtain⟨c0,c1,c2,c3,c4,c5,Q,S⟩:=(l.out.own.wsg (by rw[e3];exact q)).cell k x P
   simp only[Nat.zero_add]at c0 c1 c2 c3 c4 c5 Q S;have z:=l.out.own.cap;rw[e3]at z;have T:=J6 e1;have a:=J6 P;clear e1 P hx;have U:YAt (wr.alloc (J5 #[J I x.num,J I x.d,J I x.v,J I x.amt,J I x.hei,J I x.due,J I x.h0,J I x.h1] 127)) wr.heap.size x:=heap_alloc_new _ _;have HQ:=J6 (l.out.over (znw wr (J5 #[J I x.num,J I x.d,J I x.v,J I x.amt,J I x.hei,J I x.due,J I x.h0,J I x.h1] 127)))
   go_upto_region 5 with fail
   generalize wr.alloc (J5 #[J I x.num,J I x.d,J I x.v,J I x.amt,J I x.hei,J I x.due,J I x.h0,J I x.h1] 127)=wq at *;clear c0 c1 c2 c3 c4 c5 Q S l;have Q:=U.cells.2.2.2.2.2.2.1;have S:=U.cells.2.2.2.2.2.2.2;have a9:=U.lt;have b4:=fun w=>j0Y w x.h0 x.h1;have b5:=fun w=>j0T w x.h0 x.h1;generalize hL:(s.W.take k).map (z2c 0 h) ++ s.W.drop k=Lk at *;clear hL;have B:Hid (RQl s (Lk.set k (if 1<=0 then (z2c 0 h) x else x)) (w0.heap.size+2) w6.heap.size w (some ⟨g,0,none⟩) C wq):=by show RQl _ _ _ _ _ _ _ _;rw[if_neg (by omega),z1U a.out];exact HQ.out
   go_upto_region 6 with fail
   go_loopw [24] (fun i wl=>∃ (j:Nat),j<=2/\i=J I (j:Int)/\Hid (RQl s (Lk.set k (if 1<=j then (z2c 0 h) x else x)) (w0.heap.size+2) w6.heap.size w (some ⟨g,0,none⟩) C wl)) (fun i _=>2 - (intOf i).toNat)
   case atStart=>exact⟨0,by omega,rfl,B⟩
   case round =>
    obtain⟨j,hj,rfl,f⟩:=hrel;clear B;have x7:=(z0g f.out.O).2.2.2.2.2.2.2.1;have b6:=f.out.O.lt
    rcases (show j=0∨j=1∨j=2 by omega) with rfl | rfl | rfl
    ·rw[if_neg (by omega),z1U a.out]at f
     obtain⟨g',V,_,a0,D⟩:=f.out.own.holds (by have:=(List.getElem?_eq_some_iff.1 a.out).1;omega)
     cases V;obtain⟨d6,d7,f6,f7⟩:=D k x a.out;clear D
     by_cases hh:x.h0<=h
     ·have X:Hid ((z2c 0 h) x={ x with h0:=0 }):=by show _=_;unfold z2c;simp[hh]
      go_wp2;refine⟨⟨1,by omega,by go_num,?_⟩,by simp[intOf]⟩
      show RQl _ _ _ _ _ _ _ _
      rw[if_pos (by omega),X.out]
      have n:=(But.refl g wr).set (k * 8+6) (J I 0);exact⟨f.out.own.put a.out _ 6 _ (by omega) rfl,n.z0I (by omega) f.out.R,n.z0I (by omega) f.out.O,f.out.below.trans (n.below (by omega))⟩
     ·have X:Hid ((z2c 0 h) x=x):=by show _=_;unfold z2c;simp[hh]
      have o:Hid (RQl s (Lk.set k (if 1<=1 then (z2c 0 h) x else x)) (w0.heap.size+2) w6.heap.size w (some ⟨g,0,none⟩) C wr):=by show RQl _ _ _ _ _ _ _ _;rw[if_pos (by omega),X.out,z1U a.out];exact f.out
      go_wp2;exact⟨⟨1,by omega,by go_num,o⟩,by simp[intOf]⟩
    ·have o:=J6 f.out;clear f;go_wp2;exact⟨⟨2,by omega,by go_num,by show RQl _ _ _ _ _ _ _ _;have hq:=o.out;rw[if_pos (by omega)]at hq ⊢;exact hq⟩,by simp[intOf]⟩
    ·rw[if_pos (by omega),<- T.out]at f
     go_wp2;exact⟨⟨k+1,by omega,by go_num,f⟩,by simp[intOf];omega⟩
  ·obtain rfl:k=s.W.length:=by omega
   have Y:=l.out.own;rw[List.take_length,List.drop_length,List.append_nil]at Y;have HO:=J6 Y;have S3:=l.out.O;have R3:=l.out.R;have Z:=J6 l.out.below;clear Y l
   go_upto_region 12 with fail
   apply wp_region_lit;refine wpList_load_mid rfl 32 _ rfl _ 0 rfl _ _ S3.range underlying32 rfl (by rw[z0l];rfl) ?_
   refine wpList_store_mid rfl 32 _ _ rfl _ 0 (stC s (J1 A s.W.length C)) rfl rfl (R3.there 0 _ (by rw[z0p,z0d];omega)) (by rw[z0l];rfl) (z0q _ _ _ _) ?_
   go_wp2;exact z3y results96 R3 rfl s _ _ ⟨A,C,rfl,z0U (z0n HO.out fun k' p=>z0f (by have:=(World.ownsRow.lt HO.out k' p).1;omega) _ _ _) (by omega),z0b (by omega) _ _ _ Z.out⟩ _ rfl rfl
theorem q1A(s:St)(ao:Option Addr)(sb so c:Nat)(h:Int)(w:World)(H:z1R w ao sb so s.W) :
  Calls prog 96 #[J4 (stC s (J1 ao s.W.length c)),J I 1,J I h] w fun e w'=>∃ A C,e=.returned (J4 (stC s (J1 A s.W.length C)))/\z1k w.heap.size w' A C (s.W.map (z2c 1 h))/\Bl w w':=by
 have SS:=(SAt.new w (stC s (J1 ao s.W.length c))).alloc (J5 Z63 32);have E:=SAt.new2 w (J5 (stC s (J1 ao s.W.length c)) 32) Z63;have K:Hid (Bl w ((w.alloc (J5 (stC s (J1 ao s.W.length c)) 32)).alloc (J5 Z63 32))):=(znw w _).alloc (by simp) _
 have HW:=J6 H;have q:=H.len;clear H
 go_enter func96,ntmps96
 go_upto_region 1 with fail
 change Code.wp prog _ _ _ ((w.alloc (J5 (stC s (J1 ao s.W.length c)) 32)).alloc (J5 Z63 32));generalize (w.alloc (J5 (stC s (J1 ao s.W.length c)) 32)).alloc (J5 Z63 32)=w0 at *;have a1:w.heap.size+1<w0.heap.size:=E.lt;apply wp_region_lit;refine wpList_load_mid rfl 32 _ rfl _ 0 rfl _ _ SS.range underlying32 rfl (by rw[z0l];rfl) ?_
 go_step
 go_step
 refine (z3u s ao sb so c _ (by exact HW.out.over K.out)).mono ?_
 rintro e w6⟨A,C,rfl,m,F⟩;dsimp only;have L:=E.later F E.lt;have r:=J6 (K.out.trans (F.mono (by omega)))
 have a2:w.heap.size+1<w6.heap.size:=L.lt;have a3:w0.heap.size<=w6.heap.size:=F.size;have M:Hid (∀ k,A=some ⟨k,0,none⟩->w0.heap.size+2<=k/\k<w6.heap.size):=fun k p=>World.ownsRow.lt m k (by rw[p];rfl)
 iterate 4 go_step
 refine wpList_store_mid rfl 32 _ _ rfl _ 0 (stC s (J1 A s.W.length C)) rfl rfl ((SAt.new w6 Z63).there 0 _ (by rw[z0p,z0d];omega)) (by rw[z0l];rfl) (z0q _ _ _ _) ?_
 change wpList prog _ _ _ _ ((w6.alloc (J5 Z63 32)).setCells w6.heap.size 0 (stC s (J1 A s.W.length C)).toList);have G:=(SAt.new w6 Z63).z0C (ds:=(stC s (J1 A s.W.length C))) rfl;have R7:SAt ((w6.alloc (J5 Z63 32)).setCells w6.heap.size 0 (stC s (J1 A s.W.length C)).toList) (w.heap.size+1) Z63:=(z0f (by omega) _ _ _).trans (L.alloc _)
 have t:=J6 (z0b (b:=w6.heap.size) (by omega) (stC s (J1 A s.W.length C)).toList 0 _ (r.out.alloc (by omega) (J5 Z63 32)))
 have u:Hid (z1k (w0.heap.size+2) ((w6.alloc (J5 Z63 32)).setCells w6.heap.size 0 (stC s (J1 A s.W.length C)).toList) A C s.W):=m.to fun k _ p=>(z0f (by omega) _ _ _).trans (Below.heap_alloc w6 _ k p)
 generalize (w6.alloc (J5 Z63 32)).setCells w6.heap.size 0 (stC s (J1 A s.W.length C)).toList=w7 at *;have a4:w6.heap.size<w7.heap.size:=G.lt;have y:Hid (RQl s ((s.W.take 0).map (z2c 1 h) ++ s.W.drop 0) (w0.heap.size+2) w6.heap.size w A C w7):=⟨u.out,R7,G,t.out⟩;have x7:=(z0g G).2.2.2.2.2.2.2.1;clear SS E K L r F m G R7 u t HW
 go_upto_region 3 with fail
 go_loopw [17] (fun i wl=>∃ (k:Nat),k<=s.W.length/\i=J I (k:Int)/\Hid (RQl s ((s.W.take k).map (z2c 1 h) ++ s.W.drop k) (w0.heap.size+2) w6.heap.size w A C wl)) (fun i _=>s.W.length - (intOf i).toNat)
 case atStart=>exact⟨0,Nat.zero_le _,rfl,y⟩
 case round =>
  obtain⟨k,p,rfl,l⟩:=hrel;clear y x7;have a5:=l.out.O.lt
  by_cases N:k<s.W.length
  ·obtain⟨x,hx,_⟩:=drop_at N;obtain⟨e1,P,e3⟩:=z5e ((z2c 1 h)) hx;obtain⟨g,rfl,a6,a7,_⟩:=l.out.own.holds (by omega)
   have a8:=M.out g rfl;obtain⟨c0,c1,c2,c3,c4,c5,Q,S⟩:=(l.out.own.wsg (by rw[e3];exact q)).cell k x P
   simp only[Nat.zero_add]at c0 c1 c2 c3 c4 c5 Q S;have z:=l.out.own.cap;rw[e3]at z;have T:=J6 e1;have a:=J6 P;clear e1 P hx;have U:YAt (wr.alloc (J5 #[J I x.num,J I x.d,J I x.v,J I x.amt,J I x.hei,J I x.due,J I x.h0,J I x.h1] 127)) wr.heap.size x:=heap_alloc_new _ _;have HQ:=J6 (l.out.over (znw wr (J5 #[J I x.num,J I x.d,J I x.v,J I x.amt,J I x.hei,J I x.due,J I x.h0,J I x.h1] 127)))
   go_upto_region 5 with fail
   generalize wr.alloc (J5 #[J I x.num,J I x.d,J I x.v,J I x.amt,J I x.hei,J I x.due,J I x.h0,J I x.h1] 127)=wq at *;clear c0 c1 c2 c3 c4 c5 Q S l;have Q:=U.cells.2.2.2.2.2.2.1;have S:=U.cells.2.2.2.2.2.2.2;have a9:=U.lt;have b4:=fun w=>j0Y w x.h0 x.h1;have b5:=fun w=>j0T w x.h0 x.h1;generalize hL:(s.W.take k).map (z2c 1 h) ++ s.W.drop k=Lk at *;clear hL;have B:Hid (RQl s (Lk.set k (if 2<=0 then (z2c 1 h) x else x)) (w0.heap.size+2) w6.heap.size w (some ⟨g,0,none⟩) C wq):=by show RQl _ _ _ _ _ _ _ _;rw[if_neg (by omega),z1U a.out];exact HQ.out
   go_upto_region 6 with fail
   go_loopw [24] (fun i wl=>∃ (j:Nat),j<=2/\i=J I (j:Int)/\Hid (RQl s (Lk.set k (if 2<=j then (z2c 1 h) x else x)) (w0.heap.size+2) w6.heap.size w (some ⟨g,0,none⟩) C wl)) (fun i _=>2 - (intOf i).toNat)
   case atStart=>exact⟨0,by omega,rfl,B⟩
   case round =>
    obtain⟨j,hj,rfl,f⟩:=hrel;clear B;have x7:=(z0g f.out.O).2.2.2.2.2.2.2.1;have b6:=f.out.O.lt
    rcases (show j=0∨j=1∨j=2 by omega) with rfl | rfl | rfl
    ·have n:=J6 f.out;clear f;go_wp2;exact⟨⟨1,by omega,by go_num,by show RQl _ _ _ _ _ _ _ _;have hq:=n.out;rw[if_neg (by omega)]at hq ⊢;exact hq⟩,by simp[intOf]⟩
    ·rw[if_neg (by omega),z1U a.out]at f
     obtain⟨g',V,_,a0,D⟩:=f.out.own.holds (by have:=(List.getElem?_eq_some_iff.1 a.out).1;omega)
     cases V;obtain⟨d6,d7,f6,f7⟩:=D k x a.out;clear D
     by_cases hh:x.h1<=h
     ·have X:Hid ((z2c 1 h) x={ x with h1:=0 }):=by show _=_;unfold z2c;simp[hh]
      go_wp2;refine⟨⟨2,by omega,by go_num,?_⟩,by simp[intOf]⟩
      show RQl _ _ _ _ _ _ _ _
      rw[if_pos (by omega),X.out]
      have o:=(But.refl g wr).set (k * 8+7) (J I 0);exact⟨f.out.own.put a.out _ 7 _ (by omega) rfl,o.z0I (by omega) f.out.R,o.z0I (by omega) f.out.O,f.out.below.trans (o.below (by omega))⟩
     ·have X:Hid ((z2c 1 h) x=x):=by show _=_;unfold z2c;simp[hh]
      have n:Hid (RQl s (Lk.set k (if 2<=2 then (z2c 1 h) x else x)) (w0.heap.size+2) w6.heap.size w (some ⟨g,0,none⟩) C wr):=by show RQl _ _ _ _ _ _ _ _;rw[if_pos (by omega),X.out,z1U a.out];exact f.out
      go_wp2;exact⟨⟨2,by omega,by go_num,n⟩,by simp[intOf]⟩
    ·rw[if_pos (by omega),<- T.out]at f
     go_wp2;exact⟨⟨k+1,by omega,by go_num,f⟩,by simp[intOf];omega⟩
  ·obtain rfl:k=s.W.length:=by omega
   have Y:=l.out.own;rw[List.take_length,List.drop_length,List.append_nil]at Y;have HO:=J6 Y;have S3:=l.out.O;have R3:=l.out.R;have Z:=J6 l.out.below;clear Y l
   go_upto_region 12 with fail
   apply wp_region_lit;refine wpList_load_mid rfl 32 _ rfl _ 0 rfl _ _ S3.range underlying32 rfl (by rw[z0l];rfl) ?_
   refine wpList_store_mid rfl 32 _ _ rfl _ 0 (stC s (J1 A s.W.length C)) rfl rfl (R3.there 0 _ (by rw[z0p,z0d];omega)) (by rw[z0l];rfl) (z0q _ _ _ _) ?_
   go_wp2;exact z3y results96 R3 rfl s _ _ ⟨A,C,rfl,z0U (z0n HO.out fun k' p=>z0f (by have:=(World.ownsRow.lt HO.out k' p).1;omega) _ _ _) (by omega),z0b (by omega) _ _ _ Z.out⟩ _ rfl rfl
end
namespace Pv
open Go.RowKit
def z7Y:Pr:=(z4V newP 0 0 500).1
def z7i:Pr:=z3X (z0Z z7Y 3) 3
theorem j0n:(z4V newP 0 0 500).2=0:=by decide +kernel
theorem q4Q:z1s z7Y=true:=by decide +kernel
theorem q6r:z1s z7i=true:=by decide +kernel
theorem q2r:z0j (z0Z z7Y 3).s=true:=by decide +kernel
theorem q7X:z7i.set.length=1:=by decide +kernel
theorem q5t:z0D 3 (z0Z z7Y 3).s.W=[]:=by decide +kernel
theorem j0O:z7i.h=1:=by decide +kernel
theorem q7y:endP z7Y 3=(z7i,[],0):=by
 unfold endP;rw[if_pos ⟨q4Q,by decide,by decide⟩,z3q (p:=z0Z z7Y 3) rfl,show z3X (z0Z z7Y 3) 3=z7i from rfl,z3C (p:=z7i) (c:=0) rfl,z3C (p:=z7i) (c:=1) rfl,q5t]
theorem q6e(v:PrV)(P:Nat->Prop)(w:World)(a:PIn P w z7Y v):Calls prog 9 #[J4 (prC z7Y v),J I 3] w (q9F P w (z7i,[],0)):=by
 rw[<- q7y];refine q3o z7Y v P w 3 a z7i z7i z7i (fun _ _ _ g v wx P' b a d=>z8G g (z0Z z7Y 3) v wx P' rfl b a d) (fun _=>by rw[z3q (p:=z0Z z7Y 3) rfl];exact q2r) ?_ (by rw[z3q (p:=z0Z z7Y 3) rfl];rfl) (by rw[z3C (p:=z7i) (c:=0) rfl]) (by rw[z3C (p:=z7i) (c:=1) rfl])
 intro _ _ _ c e g v wx P' b a d;rw[ite_self]at b a;rw[ite_self];have h:=q4o g z7i v wx P' c e rfl b a
 rwa [z3C (p:=z7i) (c:=c) rfl]at h
attribute [local go_sem ↓] z0O z1c z0J z0L
theorem z7b(w:World):Calls prog 20 #[] w fun e w'=>e=.returned (J3 true)/\Bl w w':=by
 have p:=J6 (fun (wx:World)=>q1v newP z8B (fun _=>True) wx 0 0 500 (q2M _ wx))
 have k:z4V newP 0 0 500=(z7Y,0):=by
  have:=j0n
  show ((z4V newP 0 0 500).1,(z4V newP 0 0 500).2)=_
  rw[this];rfl
 rw[k]at p;have z:=J6 (fun (v:PrV) (P:Nat->Prop) (wx:World) (j:PIn P wx z7Y v)=>q6e v P wx j);have A:=J6 (fun (v:PrV) (P:Nat->Prop) (wx:World) (j:PIn P wx z7i v)=>z5x z7i v P wx j);rw[q6r]at A;have q:=J6 (show _/\_ from⟨j0O,q7X⟩);have H:=J6 (fun (P:Nat->Prop) (wx:World) (v:PrV) (j:PIn P wx z7Y v)=>z2y j);have K:=J6 (fun (P:Nat->Prop) (wx:World) (v:PrV) (j:PIn P wx z7i v)=>z2y j);clear k;generalize z7Y=p1 at *;generalize z7i=p2 at *
 go_enter func20,ntmps20
 go_upto_region 2 with (first
  | (go_at_call 26;refine (q5D _).mono ?_;rintro e w1⟨rfl,c⟩)
  | (go_at_call 25;refine (p.out _).mono ?_;rintro e a⟨v2,rfl,r,d⟩;have L:=z0z (CAt.new 47 a zeroCells47) z0h (z0c p1 v2) (H.out _ _ _ r)))
 have s:Bl a ((a.alloc (J5 zeroCells47 47)).setCells a.heap.size 0 (prC p1 v2).toList):=z0b (Nat.le_refl _) _ _ _ (znw a _);have m:CAt 47 ((a.alloc (J5 zeroCells47 47)).setCells a.heap.size 0 (prC p1 v2).toList) a.heap.size (prC p1 v2):=(CAt.new 47 a zeroCells47).z0C (by rw[z0h];rfl)
 have C:=(zbt c d).trans (s.mono (Nat.le_trans c.size d.size));have D:=(r.mono (P':=fun b=>b<a.heap.size) (fun _ h _=>h)).over s;have M:w.heap.size<=a.heap.size:=Nat.le_trans c.size d.size;clear L s c d r p;generalize (a.alloc (J5 zeroCells47 47)).setCells a.heap.size 0 (prC p1 v2).toList=w3 at *;generalize a.heap.size=g at *;have l3:=z0t m (z0c _ _);have N:=m.lt;have l:=J6 (show _/\_/\_ from⟨m,C,D⟩);clear m C D
 go_upto_region 3 with (go_at_call 9;refine (z.out v2 _ _ l.out.2.2).mono ?_;rintro e n⟨f,Y,rfl,t,Q,i⟩;clear l3;have R:=z0z (l.out.1.over i) (z0c _ _) (z0c p2 f) (K.out _ _ _ t))
 have o:CAt 47 (n.setCells g 0 (prC p2 f).toList) g (prC p2 f):=(l.out.1.over i).z0C rfl;have E:=z0b (b:=g) (B:=w.heap.size) (by omega) (prC p2 f).toList 0 _ (zbt l.out.2.1 i)
 have u:=t.sets (g:=g) (fun h=>by
  rcases h with⟨h,_⟩ | h
  ·have Z:g<g:=h;omega
  ·omega) 0 (prC p2 f).toList
 obtain⟨A4,S,D4,T,U,-⟩:=Q;have x:S=0:=by simpa [inC] using U.symm
 subst T x;obtain⟨V,W,F,-⟩:=u.set.open (z0r _) (by decide)
 rw[q.out.2]at F;have X:(n.setCells g 0 (prC p2 f).toList).cell? ⟨g,65,none⟩=some (J1 V 1 W):=by rw[<- F];exact o.cell 65
 have q0:(n.setCells g 0 (prC p2 f).toList).cell? ⟨g,0,none⟩=some (J I 1):=by rw[<- q.out.1];exact o.cell 0
 have l5:=z0t o (z0c _ _);have G:=J6 (show _/\_ from⟨E,u⟩);clear o E u R t i l z q;generalize n.setCells g 0 (prC p2 f).toList=w5 at *
 go_wp2_with (go_at_call 10;refine (A.out f _ _ G.out.2).mono ?_;rintro e w6⟨rfl,y⟩)
 go_ret;exact⟨rfl,zbt G.out.1 y⟩
end Pv
end Go.Proofs.YtjghbciepinofaaGreat
