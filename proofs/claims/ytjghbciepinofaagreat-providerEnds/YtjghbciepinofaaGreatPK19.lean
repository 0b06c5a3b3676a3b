/- Parts of the proof. -/
import Derived.Test.YtjghbciepinofaaGreatPL
import Derived.Test.YtjghbciepinofaaGreatPK27
set_option maxRecDepth 100000
set_option maxHeartbeats 16000000
namespace Go.Proofs.YtjghbciepinofaaGreat
open Go.Proofs.Tryz
open Value renaming int->J,slice->J1,pointer->J2,bool->J3,agg->J4
open IntKind renaming i64->I
open Obj renaming cells->J5
namespace Pv
open Go.RowKit
structure q9i(P:Nat->Prop)(w wl:World)(lv:Value)(l:List (Int×Pkt))(z:List (Value×Value)):Prop where
 len:z.length=l.length
 own:wl.ownsRow (w.heap.size+1) 79 7 lv l.length (quL l z)
 ins:∀ (i:Nat) (x:Int×Pkt) (y:Value×Value),l[i]?=some x->z[i]?=some y->Rep P w y.1 2 16 (pwC x.2.S)/\Rep P w y.2 1 8 (inC x.2.D)
theorem z5a(w:World)(x:Int×Pkt)(y:Value×Value)(t:TypeId):∀ j u,(akL x y)[j]?=some u->(w.alloc (J5 #[J I x.1,J I x.2.k,J I x.2.i,J I x.2.v,J I x.2.n,y.1,y.2] t)).cell? ((⟨w.heap.size,0,none⟩:Addr).add j)=some u:=fun j u hu=>by
 rw[Addr.add_lit,Nat.zero_add];have h:=(CAt.new t w #[J I x.1,J I x.2.k,J I x.2.i,J I x.2.v,J I x.2.n,y.1,y.2]).cell j;rw[h]
 simpa [akL] using hu
theorem q1l(z:QS)(a:Int×Pkt):(z1M z a).left.length<=z.left.length+1:=by
 unfold z1M
 split
 ·simp
 ·split
  ·simp
  ·simp
theorem z4N{p:Pr}{c:Nat}{x:Pkt}(h:(z0y p c x).2=false):(z0y p c x).1=p:=by
 unfold z0y at *
 repeat' split at h
 all_goals first | (cases h;done) | skip
 all_goals simp_all
theorem q6R(p:Pr)(c:Nat)(x:Pkt):(z0y p c x).1.q=p.q:=by
 unfold z0y
 repeat' split
 all_goals rfl
theorem z7s:∀ (l:List (Int×Pkt)) (z:QS),(l.foldl z1M z).p.q=z.p.q/\(l.foldl z1M z).left.length<=z.left.length+l.length
 | [],z=>⟨rfl,Nat.le_refl _⟩
 | a :: l,z=>by
  have h:=z7s l (z1M z a);rw[List.foldl_cons];refine⟨h.1.trans ?_,by have:=q1l z a;rw[List.length_cons];omega⟩
  unfold z1M
  split
  ·rfl
  ·split
   ·exact q6R _ _ _
   ·rfl
structure QuR(Inv:Pr->Prop)(P:Nat->Prop)(w:World)(g:Nat)(s:QS)(lv:Value)(wl:World):Prop where
 st:∃ (v:PrV) (Q:Nat->Prop),CAt 47 wl g (prC s.p v)/\PIn Q wl s.p v/\(∀ b,Q b->New P w 0 b)/\¬ Q g/\¬ Q w.heap.size/\(∀ r,lv.ownBlock=some r->¬ Q r)
 wt:CAt 123 wl w.heap.size #[J3 (s.wt 0),J3 (s.wt 1)]
 lf:∃ z,q9i P w wl lv s.left z
 A:Alt g w wl
 inv:Inv s.p
theorem Alt.past{g:Nat}{w w':World}(h:Alt g w w'){b:Nat}(d:w.heap.size<=b)(o:Nat)(x:Value):Alt g w (w'.setCell ⟨b,o,none⟩ x):=
 ⟨h.os,h.tape,h.output,(by simp[World.setCell];exact h.size),fun k a c=>(Below.heap_setCell _ _ _ _ (show k≠b by omega)).trans (h.block k a c)⟩
theorem QuR.wait{Inv:Pr->Prop}{P:Nat->Prop}{w c w9:World}{g:Nat}{s:QS}{lv m:Value}{t:PrV}{Q:Nat->Prop}{q:List (Value×Value)}{f:Nat->Bool}{x:Int×Pkt}{y:Value×Value}{ob:Obj}
  (M:g<w.heap.size) (K:CAt 47 c g (prC s.p t)) (N:PIn Q c s.p t) (z:∀ b,Q b->New P w 0 b) (A:¬ Q g) (B:¬ Q w.heap.size) (u:∀ r,lv.ownBlock=some r->¬ Q r) (L:CAt 123 c w.heap.size #[J3 (f 0),J3 (f 1)])
  (R:c.ownsRow (w.heap.size+1) 79 7 lv s.left.length (quL s.left q)) (hl:q.length=s.left.length) (T:∀ (i:Nat) (x:Int×Pkt) (y:Value×Value),s.left[i]?=some x->q[i]?=some y->Rep P w y.1 2 16 (pwC x.2.S)/\Rep P w y.2 1 8 (inC x.2.D)) (n:Alt g w c) (U:Inv s.p)
  (C:Rep P w y.1 2 16 (pwC x.2.S)/\Rep P w y.2 1 8 (inC x.2.D)) (V:w9.ownsRow (w.heap.size+1) 79 7 m (s.left.length+1) (quL s.left q ++ akL x y)) (j:(c.alloc ob).grownBy w9 lv.ownBlock) (E:m.ownBlock=lv.ownBlock∨m.ownBlock=some (c.alloc ob).heap.size) :
  QuR Inv P w g { s with wt:=f,left:=s.left ++ [x] } m w9:=by
 have v:Bl c (c.alloc ob):=znw c _;have o:=v.size;have hown:∀ r,lv.ownBlock=some r->w.heap.size+1<=r/\r<c.heap.size:=fun r e=>World.ownsRow.lt R r e;have W:CAt 47 w9 g (prC s.p t):=(j.block g (Nat.lt_of_lt_of_le K.lt o) (fun e=>by have:=(hown g e.symm).1;omega)).trans (K.over v)
 have X:CAt 123 w9 w.heap.size #[J3 (f 0),J3 (f 1)]:=(j.block w.heap.size (Nat.lt_of_lt_of_le L.lt o) (fun e=>by have:=(hown _ e.symm).1;omega)).trans (L.over v)
 have F:∀ b,b<c.heap.size->Q b->some b≠m.ownBlock:=fun b d hq e=>by
  rcases E with h | h
  ·exact u b (by rw[<- h,e]) hq
  ·rw[h]at e;cases e;omega
 have Y:PIn (fun b=>Q b/\some b≠m.ownBlock) w9 s.p t:=((N.mono (P':=fun b=>(Q b/\some b≠m.ownBlock)) fun b G d=>⟨d,F b G d⟩).over v).keep fun b d H=>j.block b H fun e=>u b e.symm d.1;refine⟨⟨t,_,W,Y,fun b h=>z b h.1,fun h=>A h.1,fun h=>B h.1,fun r e h=>h.2 e.symm⟩,X,⟨q ++ [y],by simp[hl],?_,fun i a b l d=>?_⟩,?_,U⟩
 ·rw[z7d s.left q x y hl,List.length_append];exact V
 ·by_cases h:i<s.left.length
  ·rw[List.getElem?_append_left h]at l;rw[List.getElem?_append_left (by rw[hl];exact h)]at d
   exact T i a b l d
  ·rw[List.getElem?_append_right (by omega)]at l
   rw[List.getElem?_append_right (by rw[hl];omega),hl]at d
   rcases Nat.eq_zero_or_pos (i - s.left.length) with h0 | h0
   ·rw[h0]at l d
    simp at l d
    subst l d;exact C
   ·rw[List.getElem?_eq_none (by simp;omega)]at l
    cases l
 ·exact⟨j.os.trans n.os,j.tape.trans n.tape,j.output.trans n.output,Nat.le_trans n.size (Nat.le_trans o j.size),fun k Z hn=>((j.block k (by have:=n.size;omega) (fun e=>by have:=(hown k e.symm).1;omega)).trans (v.block k (by have:=n.size;omega))).trans (n.block k Z hn)⟩
theorem j0v(p:Pr)(v:PrV)(l:List (Int×Pkt))(x:Value):(prC p v).setIfInBounds 96 x=prC { p with q:=l } { v with q:=x }:=rfl
theorem q6M(f:Nat->Bool){m:Nat}(a:m<2):(#[J3 (f 0),J3 (f 1)]:Array Value).setIfInBounds m (J3 true)=#[J3 ((fun i=>if i=m then true else f i) 0),J3 ((fun i=>if i=m then true else f i) 1)]:=by
 rcases (show m=0∨m=1 by omega) with rfl | rfl <;> rfl
theorem q4i(Inv:Pr->Prop)(g:Nat)(p:Pr)(v:PrV)(P:Nat->Prop)(w:World)(hC:CAt 47 w g (prC p v))(hp:PIn P w p v)(hg:¬ P g)(h0:Inv p)(i8:p.q.length * 88<=140737488355328)(hq:∀ a∈p.q,0<=a.1/\a.1<2)
  (d2:∀ a∈p.q,∀ (p':Pr) (v':PrV) (P':Nat->Prop) (wx:World) (y1 y2:Value),Inv p'->CAt 47 wx g (prC p' v')->PIn P' wx p' v'->¬ P' g->Calls prog 67 #[J2 (some ⟨g,0,none⟩),J4 #[.int .i64 a.1,.int .i64 a.2.k,.int .i64 a.2.i,.int .i64 a.2.v,.int .i64 a.2.n,y1,y2]] wx (z3l wx g P' (z0y p' a.1.toNat a.2)))
  (hI:∀ a∈p.q,∀ p',Inv p'->Inv (z0y p' a.1.toNat a.2).1) :
  Calls prog 30 #[J2 (some ⟨g,0,none⟩)] w (Turns w g P (z0H p)):=by
 obtain⟨i0,hi,d3,d4,d5⟩:=info_parts q3W;have g8:=hC.lt;have d6:z0H p={ (goQ p).p with q:=(goQ p).left }:=rfl
 have d7:goQ p=p.q.foldl z1M ⟨p,fun _=>false,[]⟩:=rfl;generalize z0H p=D at *;generalize goQ p=G at *;obtain⟨z,c5,d8,d9⟩:=id hp.q;obtain⟨Aq,Cq,eq,sq,-,cq,-⟩:=d8.open (z1h _ _ c5) (by decide)
 have g9:=J6 c5;have h4:=J6 d9;have h5:=J6 cq;have h6:p.q.length<=1759218604390:=by omega
 have h7:=J6 hq;have h8:=J6 d2;have h9:=J6 hI;have i1:=J6 d6;have e7:=J6 d7;have B0:Bl w (w.alloc (J5 #[J3 false,J3 false] 123)):=znw w _;have H0:Hid (QuR Inv P w g ⟨p,fun _=>false,[]⟩ (J1 none 0 0) (w.alloc (J5 #[J3 false,J3 false] 123))):=⟨⟨v,fun b=>P b/\b<w.heap.size,hC.over B0,(hp.mono fun b hl h=>⟨h,hl⟩).over B0,fun b h=>.inl h,fun h=>hg h.1,fun h=>by have:=h.2;omega,fun r e=>by cases e⟩,CAt.new _ _ _,⟨[],rfl,World.ownsRow_nil _ _ _ _,fun i x y h=>by cases h⟩,Alt.of B0,h0⟩
 clear c5 d9 d8 cq hq d2 hI d6 d7 B0 h0 sq
 go_enter func30,ntmps30
 go_upto_region 2 with fail
 have e8:(w.alloc (J5 #[J3 false,J3 false] 123)).cell? ⟨g,96,none⟩=some (J1 Aq p.q.length Cq):=by rw[<- eq];exact (hC.alloc _).cell 96
 generalize w.alloc (J5 #[J3 false,J3 false] 123)=w0 at *
 go_upto_region 3 with fail
 clear e8 eq
 go_loopw [3,11] (fun lv i wl=>∃ (k:Nat),k<=p.q.length/\i=.int .i64 (k:Int)/\Hid (QuR Inv P w g ((p.q.take k).foldl z1M ⟨p,fun _=>false,[]⟩) lv wl)) (fun _ i _=>p.q.length - (intOf i).toNat)
 case atStart=>exact⟨0,Nat.zero_le _,rfl,H0⟩
 case round =>
  obtain⟨k,hk,rfl,HR⟩:=hrel
  by_cases a9:k<p.q.length
  ·have j2:(k:Int)<(p.q.length:Int):=by omega
   have j3:(0:Int)<=(k:Int):=by omega
   have hx:p.q[k]?=some p.q[k]:=List.getElem?_eq_getElem a9;have i2:k<z.length:=by rw[g9.out];exact a9
   have hy:z[k]?=some z[k]:=List.getElem?_eq_getElem i2;have a2:=h4.out k _ _ hx hy;have hmem:p.q[k]∈p.q:=List.getElem_mem a9;have e9:(p.q.take (k+1)).foldl z1M ⟨p,fun _=>false,[]⟩=z1M ((p.q.take k).foldl z1M ⟨p,fun _=>false,[]⟩) p.q[k]:=by rw[List.take_succ_eq_append_getElem a9,List.foldl_append];rfl
   have f4:=(z7s (p.q.take k) ⟨p,fun _=>false,[]⟩).2;rw[List.length_take,Nat.min_eq_left hk]at f4;have a0:=J6 e9;have b4:=h8.out _ hmem;have b5:=h9.out _ hmem;have f5:=h7.out _ hmem;generalize (p.q.take k).foldl z1M ⟨p,fun _=>false,[]⟩=s at *;have i3:s.left.length+1<=p.q.length:=by simp at f4;omega
   obtain⟨bq,oq,rfl,f6,f8,hcell⟩:=h5.out (by omega)
   have f9:bq≠g:=fun e=>hg (e ▸ f6)
   have hc:∀ j,j<7->∀ u,(akL p.q[k] z[k])[j]?=some u->wr.cell? ⟨bq,oq+k * 7+j,none⟩=some u:=fun j hj u hu=>by
    rw[World.cell?_of_block (w:=w) (a:=⟨bq,oq+k * 7+j,none⟩) (HR.out.A.block bq f8 f9),Nat.add_assoc];exact hcell _ _ ((z2W p.q z k _ _ j hx hy hj).trans hu)
   have e0:=hc 0 (by omega) _ rfl
   have e1:=hc 1 (by omega) _ rfl
   have e2:=hc 2 (by omega) _ rfl
   have e3:=hc 3 (by omega) _ rfl
   have e4:=hc 4 (by omega) _ rfl
   have e5:=hc 5 (by omega) _ rfl
   have e6:=hc 6 (by omega) _ rfl
   rw[Nat.add_zero]at e0;generalize p.q[k]=x at *;generalize z[k]=y at *;obtain⟨y1,y2⟩:=y;dsimp only at a2 e5 e6;obtain⟨⟨T,U,V,i4,-⟩,⟨W,X,Y,i5,-⟩⟩:=id a2;subst i4 i5;obtain⟨x1,f⟩:=x;dsimp only at f5 b4 b5 a2 e0 e1 e2 e3 e4;obtain⟨m,rfl⟩:∃ m:Nat,x1=(m:Int):=⟨x1.toNat,by omega⟩
   have g0:m<2:=by omega
   have j4:(m:Int)<2:=by omega
   have j5:(0:Int)<=(m:Int):=by omega
   rw[Int.toNat_natCast]at b4 b5;have g1:=J6 a2;have b6:=J6 b4;have b7:=J6 b5;have bA:Bl wr (wr.alloc (J5 #[.int .i64 (m:Int),.int .i64 f.k,.int .i64 f.i,.int .i64 f.v,.int .i64 f.n,J1 T U V,J1 W X Y] 79)):=znw wr _;have K5:=CAt.new 79 wr #[.int .i64 (m:Int),.int .i64 f.k,.int .i64 f.i,.int .i64 f.v,.int .i64 f.n,J1 T U V,J1 W X Y];clear hc hcell hx hy a2 b4 b5 e9 hmem f8 f6 f9 f5
   go_upto_region 5 with fail
   clear e0 e1 e2 e3 e4 e5 e6;obtain⟨w5,c6⟩:∃ w5,w5=wr.alloc (J5 #[.int .i64 (m:Int),.int .i64 f.k,.int .i64 f.i,.int .i64 f.v,.int .i64 f.n,J1 T U V,J1 W X Y] 79):=⟨_,rfl⟩;rw[<- c6]at K5 bA;rw[<- c6];clear c6;obtain⟨⟨v5,Q,C5,P5,L,H,M,N⟩,W5,⟨z5,L5⟩,A5,I5⟩:=HR.out;have i9:w.heap.size<wr.heap.size:=W5.lt;have C6:=C5.over bA;have P6:=P5.over bA;have W6:=W5.over bA;have A6:=A5.trans (Alt.of bA);have O6:=Ln.z2j L5.own bA;have j6:=bA.size;have g2:=g8;have k0:w5.cell? ⟨wr.heap.size,0,none⟩=some (.int .i64 (m:Int)):=K5.cell 0;have k1:w5.cell? ⟨wr.heap.size,1,none⟩=some (.int .i64 f.k):=K5.cell 1;have k2:w5.cell? ⟨wr.heap.size,2,none⟩=some (.int .i64 f.i):=K5.cell 2;have k3:w5.cell? ⟨wr.heap.size,3,none⟩=some (.int .i64 f.v):=K5.cell 3;have k4:w5.cell? ⟨wr.heap.size,4,none⟩=some (.int .i64 f.n):=K5.cell 4;have k5:w5.cell? ⟨wr.heap.size,5,none⟩=some (J1 T U V):=K5.cell 5;have k6:w5.cell? ⟨wr.heap.size,6,none⟩=some (J1 W X Y):=K5.cell 6
   have aW:w5.cell? ⟨w.heap.size,m,none⟩=some (J3 (s.wt m)):=by
    rw[W6.cell m]
    rcases (show m=0∨m=1 by omega) with rfl | rfl <;> rfl
   have a3:=J6 (b6.out s.p v5 Q w5 (J1 T U V) (J1 W X Y) I5 C6 P6 H)
   have a4:z1M s ((m:Int),f)=if s.wt m=true then { s with left:=s.left ++ [((m:Int),f)] } else if (z0y s.p m f).2=true then { s with p:=(z0y s.p m f).1 } else { s with wt:=fun i=>if i=m then true else s.wt i,left:=s.left ++ [((m:Int),f)] }:=by
    unfold z1M;rw[Int.toNat_natCast]
   have l:=J6 a4;have g3:=J6 (b7.out s.p I5);have g5:=J6 (fun h=>z4N (p:=s.p) (c:=m) (x:=f) h);have K:=J6 (show _/\_/\_/\_/\_/\_/\_ from⟨C6,P6,W6,A6,O6,K5,I5⟩);have a1:=J6 (show _/\_ from⟨L5.len,L5.ins⟩);have c7:=J6 (show _/\_/\_/\_ from⟨L,H,M,N⟩);clear C5 P5 W5 A5 L5 I5 C6 P6 W6 A6 O6 K5 L H M N a4 HR bA b6 b7;generalize z0y s.p m f=dl at *;obtain⟨p',b'⟩:=dl;dsimp only at l g3 g5 a3;cases a5:s.wt m
   ·rw[a5]at aW;replace l:=J6 (l.out.trans (if_neg (by simp[a5])))
    cases b'
    ·
     replace l:=J6 (l.out.trans (if_neg (by simp)))
     have e:=g5.out rfl;subst e
     go_upto_region 6 with (go_at_call 67;refine a3.out.mono ?_;rintro e B⟨v7,rfl,C7,P7,A7⟩;dsimp only at C7 P7;have R:=J6 (show _/\_/\_ from⟨C7,P7,A7⟩);clear C7 P7 A7;dsimp only)
     have j7:w5.heap.size<=B.heap.size:=R.out.2.2.size
     have C:Hid ((∀ b,New Q w5 0 b->New P w 0 b)/\¬ New Q w5 0 g/\¬ New Q w5 0 w.heap.size/\∀ r,u3.ownBlock=some r->¬ New Q w5 0 r):=by
      obtain⟨L,H,M,N⟩:=c7.out;refine⟨fun b h=>?_,z1t H (by omega),z1t M (by omega),fun r e=>z1t (N r e) (by have:=(World.ownsRow.lt K.out.2.2.2.2.1 r e).2;omega)⟩
      rcases h with⟨h,_⟩ | h
      ·exact L b h
      ·exact .inr (by omega)
     have d:=J6 (show _/\_/\_/\_/\_/\_ from⟨R.out.1,R.out.2.1,R.out.2.2.cat (by omega) K.out.2.2.1,Ln.z0n K.out.2.2.2.2.1 fun r e=>R.out.2.2.block r (World.ownsRow.lt K.out.2.2.2.2.1 r e).2 (by have:=(World.ownsRow.lt K.out.2.2.2.2.1 r e).1;omega),R.out.2.2.cat (b:=wr.heap.size) (by omega) K.out.2.2.2.2.2.1,K.out.2.2.2.1.trans R.out.2.2⟩)
     clear R a3
     have c8:B.cell? ⟨w.heap.size,m,none⟩=some (J3 (s.wt m)):=by
      rw[d.out.2.2.1.cell m]
      rcases (show m=0∨m=1 by omega) with rfl | rfl <;> rfl
     have f7:=d.out.2.2.1.free m;have j0:B.cell? ⟨wr.heap.size,0,none⟩=some (.int .i64 (m:Int)):=d.out.2.2.2.2.1.cell 0;have a6:=d.out.2.2.1.lt;have C8:=d.out.1.other (c:=w.heap.size) (o:=m) (by omega) (J3 true)
     have P8:=d.out.2.1.keep (w':=B.setCell ⟨w.heap.size,m,none⟩ (J3 true)) fun b Z _=>Below.heap_setCell B ⟨w.heap.size,m,none⟩ (J3 true) b (show b≠w.heap.size from fun e=>C.out.2.2.1 (e ▸ Z));have W8:=d.out.2.2.1.set m (J3 true);rw[q6M s.wt g0]at W8;have O8:=Ln.z0n d.out.2.2.2.1 (w':=B.setCell ⟨w.heap.size,m,none⟩ (J3 true)) fun r e=>Below.heap_setCell B ⟨w.heap.size,m,none⟩ (J3 true) r (show r≠w.heap.size by have:=(World.ownsRow.lt d.out.2.2.2.1 r e).1;omega)
     have K8:=d.out.2.2.2.2.1.other (c:=w.heap.size) (o:=m) (by omega) (J3 true)
     have A8:=d.out.2.2.2.2.2.past (b:=w.heap.size) (Nat.le_refl _) m (J3 true);have t:=J6 (show _/\_/\_/\_/\_/\_ from⟨C8,P8,W8,O8,K8,A8⟩);clear C8 P8 W8 O8 K8 A8 k0 k1 k2 k3 k4 k5 k6 aW
     go_upto_region 7 with fail
     clear c8 f7 j0 a6;generalize B.setCell ⟨w.heap.size,m,none⟩ (J3 true)=w8 at *;have k0:w8.cell? ⟨wr.heap.size,0,none⟩=some (.int .i64 (m:Int)):=t.out.2.2.2.2.1.cell 0;have k1:w8.cell? ⟨wr.heap.size,1,none⟩=some (.int .i64 f.k):=t.out.2.2.2.2.1.cell 1;have k2:w8.cell? ⟨wr.heap.size,2,none⟩=some (.int .i64 f.i):=t.out.2.2.2.2.1.cell 2;have k3:w8.cell? ⟨wr.heap.size,3,none⟩=some (.int .i64 f.v):=t.out.2.2.2.2.1.cell 3;have k4:w8.cell? ⟨wr.heap.size,4,none⟩=some (.int .i64 f.n):=t.out.2.2.2.2.1.cell 4;have k5:w8.cell? ⟨wr.heap.size,5,none⟩=some (J1 T U V):=t.out.2.2.2.2.1.cell 5;have k6:w8.cell? ⟨wr.heap.size,6,none⟩=some (J1 W X Y):=t.out.2.2.2.2.1.cell 6;have i6:w.heap.size<w8.heap.size:=t.out.2.2.1.lt;have a7:=World.ownsRow.alloc t.out.2.2.2.1 (J5 #[.int .i64 (m:Int),.int .i64 f.k,.int .i64 f.i,.int .i64 f.v,.int .i64 f.n,J1 T U V,J1 W X Y] 79);have c9:=J6 a7;clear a7
     go_upto_region 8 with (at_builtin;refine wpList_append_own_at _ rfl _ _ 45 rfl (w.heap.size+1) 79 i0 (J4 #[.int .i64 0,.int .i64 0,.int .i64 0,.int .i64 0,.int .i64 0,J1 none 0 0,J1 none 0 0]) 7 88 underlying45 hi d3 d4 d5 rfl (by decide) _ _ _ rfl c9.out ⟨w8.heap.size,0,none⟩ 1 1 (akL ((m:Int),f) (J1 T U V,J1 W X Y)) rfl rfl (z5a w8 ((m:Int),f) (J1 T U V,J1 W X Y) 79) (by intro u hu;simp[akL]at hu;rcases hu with rfl | rfl | rfl | rfl | rfl | rfl | rfl <;> rfl) (by unfold maxLen;omega) (by omega) (by simp;omega) ?_;intro v9 w9 E F _ a8;have S:=J6 (show _/\_/\_ from⟨E,F,a8⟩);clear E F a8)
     have HN:Hid (QuR Inv P w g { s with wt:=fun i=>if i=m then true else s.wt i,left:=s.left ++ [((m:Int),f)] } v9 w9):=QuR.wait g2 t.out.1 t.out.2.1 C.out.1 C.out.2.1 C.out.2.2.1 C.out.2.2.2 t.out.2.2.1 t.out.2.2.2.1 a1.out.1 a1.out.2 t.out.2.2.2.2.2 K.out.2.2.2.2.2.2 g1.out S.out.1 S.out.2.1 S.out.2.2
     clear k0 k1 k2 k3 k4 k5 k6;go_wp2
     first | exact⟨⟨k+1,by omega,by go_num,by rw[a0.out,l.out];exact HN.out⟩,by simp[intOf];omega⟩ | ((repeat apply Exists.intro);exact⟨⟨k+1,by omega,by go_num,by rw[a0.out,l.out];exact HN.out⟩,rfl⟩)
    ·replace l:=J6 (l.out.trans (if_pos rfl))
     go_upto_region 8 with (go_at_call 67;refine a3.out.mono ?_;rintro e B⟨v7,rfl,C7,P7,A7⟩;dsimp only at C7 P7;have d:=J6 (show _/\_/\_ from⟨C7,P7,A7⟩);clear C7 P7 A7;dsimp only)
     clear k0 k1 k2 k3 k4 k5 k6 aW
     have HN:Hid (QuR Inv P w g { s with p:=p' } u3 B):=by
      obtain⟨C7,P7,A7⟩:=d.out;obtain⟨L,H,M,N⟩:=c7.out;refine⟨⟨v7,New Q w5 0,C7,P7,fun b h=>?_,z1t H (by omega),z1t M (by omega),fun r e=>z1t (N r e) (by have:=(World.ownsRow.lt K.out.2.2.2.2.1 r e).2;omega)⟩,A7.cat (by omega) K.out.2.2.1,⟨z5,a1.out.1,Ln.z0n K.out.2.2.2.2.1 fun r e=>A7.block r (World.ownsRow.lt K.out.2.2.2.2.1 r e).2 (by have:=(World.ownsRow.lt K.out.2.2.2.2.1 r e).1;omega),a1.out.2⟩,K.out.2.2.2.1.trans A7,g3.out⟩
      rcases h with⟨h,_⟩ | h
      ·exact L b h
      ·exact .inr (by omega)
     go_wp2
     first | exact⟨⟨k+1,by omega,by go_num,by rw[a0.out,l.out];exact HN.out⟩,by simp[intOf];omega⟩ | ((repeat apply Exists.intro);exact⟨⟨k+1,by omega,by go_num,by rw[a0.out,l.out];exact HN.out⟩,rfl⟩)
   ·have b9:(fun i=>if i=m then true else s.wt i)=s.wt:=funext fun i=>by
     by_cases e:i=m
     ·rw[if_pos e,e,a5]
     ·rw[if_neg e]
    rw[a5]at aW;replace l:=J6 ((l.out.trans (if_pos a5)).trans (by rw[b9]:_=({ s with wt:=fun i=>if i=m then true else s.wt i,left:=s.left ++ [((m:Int),f)] }:QS)))
    clear b9
    go_upto_region 6 with fail
    obtain⟨B,d0⟩:∃ B,B=w5:=⟨_,rfl⟩;have C:=c7;have d:Hid (CAt 47 B g (prC s.p v5)/\PIn Q B s.p v5/\CAt 123 B w.heap.size #[J3 (s.wt 0),J3 (s.wt 1)]/\B.ownsRow (w.heap.size+1) 79 7 u3 s.left.length (quL s.left z5)/\CAt 79 B wr.heap.size #[.int .i64 (m:Int),.int .i64 f.k,.int .i64 f.i,.int .i64 f.v,.int .i64 f.n,J1 T U V,J1 W X Y]/\Alt g w B):=by rw[d0];exact⟨K.out.1,K.out.2.1,K.out.2.2.1,K.out.2.2.2.2.1,K.out.2.2.2.2.2.1,K.out.2.2.2.1⟩
    rw[<- d0];clear d0 a3
    have c8:B.cell? ⟨w.heap.size,m,none⟩=some (J3 (s.wt m)):=by
     rw[d.out.2.2.1.cell m]
     rcases (show m=0∨m=1 by omega) with rfl | rfl <;> rfl
    have f7:=d.out.2.2.1.free m;have j0:B.cell? ⟨wr.heap.size,0,none⟩=some (.int .i64 (m:Int)):=d.out.2.2.2.2.1.cell 0;have a6:=d.out.2.2.1.lt;have C8:=d.out.1.other (c:=w.heap.size) (o:=m) (by omega) (J3 true)
    have P8:=d.out.2.1.keep (w':=B.setCell ⟨w.heap.size,m,none⟩ (J3 true)) fun b Z _=>Below.heap_setCell B ⟨w.heap.size,m,none⟩ (J3 true) b (show b≠w.heap.size from fun e=>C.out.2.2.1 (e ▸ Z));have W8:=d.out.2.2.1.set m (J3 true);rw[q6M s.wt g0]at W8;have O8:=Ln.z0n d.out.2.2.2.1 (w':=B.setCell ⟨w.heap.size,m,none⟩ (J3 true)) fun r e=>Below.heap_setCell B ⟨w.heap.size,m,none⟩ (J3 true) r (show r≠w.heap.size by have:=(World.ownsRow.lt d.out.2.2.2.1 r e).1;omega)
    have K8:=d.out.2.2.2.2.1.other (c:=w.heap.size) (o:=m) (by omega) (J3 true)
    have A8:=d.out.2.2.2.2.2.past (b:=w.heap.size) (Nat.le_refl _) m (J3 true);have t:=J6 (show _/\_/\_/\_/\_/\_ from⟨C8,P8,W8,O8,K8,A8⟩);clear C8 P8 W8 O8 K8 A8 k0 k1 k2 k3 k4 k5 k6 aW
    go_upto_region 7 with fail
    clear c8 f7 j0 a6;generalize B.setCell ⟨w.heap.size,m,none⟩ (J3 true)=w8 at *;have k0:w8.cell? ⟨wr.heap.size,0,none⟩=some (.int .i64 (m:Int)):=t.out.2.2.2.2.1.cell 0;have k1:w8.cell? ⟨wr.heap.size,1,none⟩=some (.int .i64 f.k):=t.out.2.2.2.2.1.cell 1;have k2:w8.cell? ⟨wr.heap.size,2,none⟩=some (.int .i64 f.i):=t.out.2.2.2.2.1.cell 2;have k3:w8.cell? ⟨wr.heap.size,3,none⟩=some (.int .i64 f.v):=t.out.2.2.2.2.1.cell 3;have k4:w8.cell? ⟨wr.heap.size,4,none⟩=some (.int .i64 f.n):=t.out.2.2.2.2.1.cell 4;have k5:w8.cell? ⟨wr.heap.size,5,none⟩=some (J1 T U V):=t.out.2.2.2.2.1.cell 5;have k6:w8.cell? ⟨wr.heap.size,6,none⟩=some (J1 W X Y):=t.out.2.2.2.2.1.cell 6;have i6:w.heap.size<w8.heap.size:=t.out.2.2.1.lt;have a7:=World.ownsRow.alloc t.out.2.2.2.1 (J5 #[.int .i64 (m:Int),.int .i64 f.k,.int .i64 f.i,.int .i64 f.v,.int .i64 f.n,J1 T U V,J1 W X Y] 79);have c9:=J6 a7;clear a7
    go_upto_region 8 with (at_builtin;refine wpList_append_own_at _ rfl _ _ 45 rfl (w.heap.size+1) 79 i0 (J4 #[.int .i64 0,.int .i64 0,.int .i64 0,.int .i64 0,.int .i64 0,J1 none 0 0,J1 none 0 0]) 7 88 underlying45 hi d3 d4 d5 rfl (by decide) _ _ _ rfl c9.out ⟨w8.heap.size,0,none⟩ 1 1 (akL ((m:Int),f) (J1 T U V,J1 W X Y)) rfl rfl (z5a w8 ((m:Int),f) (J1 T U V,J1 W X Y) 79) (by intro u hu;simp[akL]at hu;rcases hu with rfl | rfl | rfl | rfl | rfl | rfl | rfl <;> rfl) (by unfold maxLen;omega) (by omega) (by simp;omega) ?_;intro v9 w9 E F _ a8;have S:=J6 (show _/\_/\_ from⟨E,F,a8⟩);clear E F a8)
    have HN:Hid (QuR Inv P w g { s with wt:=fun i=>if i=m then true else s.wt i,left:=s.left ++ [((m:Int),f)] } v9 w9):=QuR.wait g2 t.out.1 t.out.2.1 C.out.1 C.out.2.1 C.out.2.2.1 C.out.2.2.2 t.out.2.2.1 t.out.2.2.2.1 a1.out.1 a1.out.2 t.out.2.2.2.2.2 K.out.2.2.2.2.2.2 g1.out S.out.1 S.out.2.1 S.out.2.2
    clear k0 k1 k2 k3 k4 k5 k6;go_wp2
    first | exact⟨⟨k+1,by omega,by go_num,by rw[a0.out,l.out];exact HN.out⟩,by simp[intOf];omega⟩ | ((repeat apply Exists.intro);exact⟨⟨k+1,by omega,by go_num,by rw[a0.out,l.out];exact HN.out⟩,rfl⟩)
  ·obtain rfl:k=p.q.length:=by omega
   rw[List.take_length,<- e7.out]at HR;have d1:=(z7s p.q ⟨p,fun _=>false,[]⟩).2;rw[<- e7.out]at d1;have c4:G.left.length<=p.q.length:=by simpa using d1
   have i7:=J6 c4;clear d1 c4;obtain⟨⟨v5,Q,C5,P5,L,H,M,N⟩,W5,⟨z5,L5⟩,A5,I5⟩:=HR.out;obtain⟨Al,Cl,el⟩:=Ln.z2B L5.own;subst el;have e8:wr.cell? ⟨g,96,none⟩=some v5.q:=C5.cell 96;have j8:=C5.free 96;have j1:=C5.lt;have C6:=C5.set 96 (J1 Al G.left.length Cl);rw[j0v G.p v5 G.left]at C6;have A6:=A5.set 96 (J1 Al G.left.length Cl);have k6:∀ b,b≠g->(wr.setCell ⟨g,96,none⟩ (J1 Al G.left.length Cl)).heap[b]?=wr.heap[b]?:=fun b Z=>Below.heap_setCell wr ⟨g,96,none⟩ _ b Z
   have N6:PIn (New P w 0) (wr.setCell ⟨g,96,none⟩ (J1 Al G.left.length Cl)) { G.p with q:=G.left } { v5 with q:=J1 Al G.left.length Cl }:=by
    have n5:=(P5.keep (w':=wr.setCell ⟨g,96,none⟩ (J1 Al G.left.length Cl)) fun b Z _=>k6 b fun e=>H (e ▸ Z)).mono (P':=New P w 0) fun b _ Z=>L b Z;refine⟨n5.ws,n5.set,n5.lk,⟨z5,L5.len,?_,fun i x y hx hy=>?_⟩⟩
    ·have o6:=Ln.z0n L5.own (w':=wr.setCell ⟨g,96,none⟩ (J1 Al G.left.length Cl)) fun r e=>k6 r (by have:=(World.ownsRow.lt L5.own r e).1;omega)
     exact (Rep.own (bts:=80) o6 (by have:=i7.out;omega)).mono fun b _ Z=>.inr (by omega)
    ·have h2:=L5.ins i x y hx hy;have key:∀ {u:Value} {sz bts:Nat} {cs:List Value},Rep P w u sz bts cs->Rep (New P w 0) (wr.setCell ⟨g,96,none⟩ (J1 Al G.left.length Cl)) u sz bts cs:=fun h=>(A6.rep (P:=fun b=>P b/\b<w.heap.size) (fun h=>hg h.1) (h.mono fun b hl Z=>⟨Z,hl⟩)).mono fun b _ Z=>.inl Z;exact⟨key h2.1,key h2.2⟩
   have HZ:=J6 (show _/\_/\_ from⟨C6,N6,A6⟩);have g6:=i1;clear C5 P5 L H M N W5 L5 A5 I5 C6 A6 k6 N6 HR;go_wp2;go_end0;rw[g6.out];exact⟨_,rfl,HZ.out.1,HZ.out.2.1,HZ.out.2.2⟩
def q7U:Value:=J1 none 0 0
def z8B:PrV:=⟨q7U,q7U,fun _=>⟨q7U,q7U,q7U,q7U⟩,q7U⟩
theorem q2M(P:Nat->Prop)(w:World):PIn P w newP z8B:=
 ⟨Rep.nil _ _ _ _,Rep.nil _ _ _ _,fun _ _=>⟨Rep.nil _ _ _ _,Rep.nil _ _ _ _,z1I.nil _ _ _ _,z1I.nil _ _ _ _⟩,[],rfl,Rep.nil _ _ _ _,fun i _ _ h=>by simp[newP]at h⟩
theorem z7r{c:Func}{p:Tmp}(h:c.results=#[.cell p 47])(a:Array Value)(w:World)(g:Nat)(cs:Array Value)
  (d:a.getD p undef=J2 (some ⟨g,0,none⟩)) (e:CAt 47 w g cs) (b:cs.size=97) :
  (results c a).run prog w=.ok (J4 cs) w:=
 results_cell_row h _ _ g 47 cs (0,0) _ d e underlying47 rfl (by rw[z4g,b])
theorem q5D(w:World):Calls prog 26 #[] w fun e w'=>e=.returned (J4 (prC newP z8B))/\Bl w w':=by
 have f:CAt 47 (w.alloc (J5 zeroCells47 47)) w.heap.size zeroCells47:=CAt.new _ w _;have a:Hid (Bl w (w.alloc (J5 zeroCells47 47))):=znw w _;have c:=Mt.z9Y 0 0 (by unfold Mt.I64;omega)
 rw[show Mt.alw 0=1 from rfl,show wrap64 (0+10)=10 by first | rfl | (unfold wrap64;omega) | (unfold wrap64;decide) | (simp[wrap64])]at c
 go_enter func26,ntmps26
 go_upto_region 1 with fail
 generalize w.alloc (J5 zeroCells47 47)=w0 at *;apply wp_region_lit
 go_step
 go_step
 refine (q5q _).mono ?_;rintro e w1⟨rfl,h1⟩;have g:=f.over h1;have b:=J6 (zbt a.out h1);clear h1 f a;dsimp only
 go_step
 go_step
 go_step
 refine (c _).mono ?_;rintro e h⟨rfl,h2⟩;have i:=g.over h2;have d:=J6 (zbt b.out h2);clear h2 g b c;dsimp only
 go_step
 go_step
 go_step
 change Oper.upon prog _ _ _ _ (Result.ok (Next.value (J4 (prC newP z8B))) h);go_simp;apply_assumption;refine wpList_store_mid rfl 47 _ _ rfl _ 0 (prC newP z8B) rfl rfl (i.there 0 _ (by rw[z0h,z0c];omega)) (by rw[z4g];rfl) (z2y (q2M (fun _=>True) h)) ?_
 go_wp2;have j:=i.z0C (ds:=prC newP z8B) (by rw[z0h];rfl)
 exact bodyPost_ret (v:=J4 (prC newP z8B)) (z7r results26 _ _ _ _ rfl j rfl) rfl ⟨rfl,z0b (Nat.le_refl _) _ _ _ d.out⟩
theorem PIn.alt{P:Nat->Prop}{w w':World}{p:Pr}{v:PrV}{g:Nat}(h:PIn P w p v)(a:¬ P g)(A:Alt g w w'):PIn (New P w 0) w' p v:=
 (A.pin (P:=fun b=>P b/\b<w.heap.size) (fun h=>a h.1) (h.mono fun _ c d=>⟨d,c⟩)).mono fun _ _ h=>.inl h
theorem z3q{p:Pr}(h:p.q=[]):z0H p=p:=by
 unfold z0H goQ;rw[h]
 show { p with q:=[] }=p
 rw[<- h]
theorem z8G(g:Nat)(p:Pr)(v:PrV)(w:World)(P:Nat->Prop)(hq:p.q=[])(b:CAt 47 w g (prC p v))(e:PIn P w p v)(n:¬ P g) :
  Calls prog 30 #[J2 (some ⟨g,0,none⟩)] w (Turns w g P (z0H p)):=by
 rw[z3q hq];obtain⟨z,f,a,j⟩:=e.q;obtain⟨c,d,eq,-,k,-,-⟩:=a.open (z1h _ _ f) (by decide)
 rw[hq]at eq;have o:w.cell? ⟨g,96,none⟩=some (J1 c 0 d):=by rw[show Value.slice c 0 d=v.q from eq.symm];exact b.cell 96
 have b1:Bl w (w.alloc (J5 #[J3 false,J3 false] 123)):=znw w _;have C1:=b.over b1;have r:(w.alloc (J5 #[J3 false,J3 false] 123)).cell? ⟨g,96,none⟩=some (J1 c 0 d):=by rw[show Value.slice c 0 d=v.q from eq.symm];exact C1.cell 96
 have s:=C1.free 96;have t:=b.lt;have C2:=C1.set 96 (J1 none 0 0);rw[j0Q]at C2;have A2:=(Alt.of (g:=g) b1).set 96 (J1 none 0 0)
 have m:PIn (New P w 0) ((w.alloc (J5 #[J3 false,J3 false] 123)).setCell ⟨g,96,none⟩ (J1 none 0 0)) p { v with q:=J1 none 0 0 }:=by
  have h1:=e.alt n A2;exact⟨h1.ws,h1.set,h1.lk,[],by rw[hq];rfl,by rw[hq];exact Rep.nil _ _ _ _,fun i _ _ h=>by rw[hq]at h;simp at h⟩
 have l:=J6 (show _/\_/\_ from⟨C2,m,A2⟩);clear C1 C2 A2 m a j k b1 eq b e
 go_enter func30,ntmps30
 go_upto_region 3 with fail
 generalize w.alloc (J5 #[J3 false,J3 false] 123)=w1 at *
 go_loopw [3,11] (fun l3 i wl=>l3=J1 none 0 0/\i=J I 0/\w1=wl) (fun _ _ _=>0)
 case atStart=>exact⟨rfl,rfl,rfl⟩
 case round =>
  obtain⟨rfl,rfl,rfl⟩:=hrel;go_wp2;go_end0;exact⟨_,rfl,l.out.1,l.out.2.1,l.out.2.2⟩
theorem z3C{p:Pr}{c:Nat}(h:(p.L c).on=false):z1B p c=p:=by
 unfold z1B;rw[if_pos (by unfold z3n;rw[h];rfl)]
theorem q4o(g:Nat)(p:Pr)(v:PrV)(w:World)(P:Nat->Prop)(c:Nat)(f:c<2)(a:(p.L c).on=false)(b:CAt 47 w g (prC p v))(d:PIn P w p v) :
  Calls prog 32 #[J2 (some ⟨g,0,none⟩),J2 (some ⟨g,66+c * 14,none⟩)] w (Turns w g P (z1B p c)):=by
 rw[z3C a];have c0:=(CAt.lk b f).facts.1;rw[a]at c0;have e:=J6 (show _/\_ from⟨b,d⟩);clear b d
 go_enter func32,ntmps32
 go_wp2_with fail
 go_region
 all_goals
  go_wp2;go_end0;exact⟨v,rfl,e.out.1.over (Below.refl _ _).drew,e.out.2.z2w (Below.refl _ _).drew 0,Alt.of (Below.refl _ _).drew⟩
end Pv
end Go.Proofs.YtjghbciepinofaaGreat
