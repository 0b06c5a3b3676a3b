/- Parts of the proof. -/
import Derived.Test.YtjghbciepinofaaGreatPL
import Derived.Test.YtjghbciepinofaaGreatPK30
import Derived.Test.YtjghbciepinofaaGreatPK33
import Derived.Test.YtjghbciepinofaaGreatPK35
set_option maxRecDepth 100000
set_option maxHeartbeats 16000000
namespace Go.Proofs.YtjghbciepinofaaGreat
open Go.Proofs.Tryz
open Value renaming int->J,slice->J1,pointer->J2,bool->J3,agg->J4
open IntKind renaming i64->I
open Obj renaming cells->J5
namespace Pv
open Go.RowKit
def q8N(x:Pkt):Prop:=(x.k=2∨x.k=3∨x.k=4)/\0<=x.v/\x.v<6
structure RQu(P:Nat->Prop)(w1:World)(g:Nat)(r:Pr)(wl:World):Prop where
 st:∃ (v:PrV) (Q:Nat->Prop) (z:List (Value×Value)),CAt 47 wl g (prC r v)/\z2N Q wl r v/\(∀ b,Q b->New P w1 0 b)/\¬ Q g/\(∀ b,v.q.ownBlock=some b->¬ Q b)/\z.length=r.q.length/\wl.ownsRow w1.heap.size 79 7 v.q r.q.length (quL r.q z)/\∀ (i:Nat) (x:Int×Pkt) (y:Value×Value),r.q[i]?=some x->z[i]?=some y->Rep P w1 y.1 2 16 (pwC x.2.S)/\Rep P w1 y.2 1 8 (inC x.2.D)
 A:Alt g w1 wl
 inv:q0R r
theorem q8O(p:Pr)(v:PrV)(l:List (Int×Pkt))(x:Value):(prC p v).setIfInBounds 96 x=prC { p with q:=l } { v with q:=x }:=rfl
theorem z8d{w1 a w9:World}{g n:Nat}{cs:Array Value}{lv:Value}{d:List Value}{ob:Obj}(f:g<w1.heap.size)(b:CAt 47 a g cs)(h:a.ownsRow w1.heap.size 79 7 lv n d)(i:(a.alloc ob).grownBy w9 lv.ownBlock):CAt 47 w9 g cs:=by
 have c:Bl a (a.alloc ob):=znw a _;exact (i.block g (Nat.lt_of_lt_of_le b.lt c.size) (fun e=>by have:=(World.ownsRow.lt h g e.symm).1;omega)).trans (b.over c)
theorem RQu.wait{P Q:Nat->Prop}{w1 f w9:World}{g:Nat}{r:Pr}{v:PrV}{z:List (Value×Value)}{x:Int×Pkt}{y:Value×Value}{ob:Obj}{c:Value}(T:g<w1.heap.size)
  (R:CAt 47 f g (prC r v)) (U:z2N Q f r v) (w:∀ b,Q b->New P w1 0 b) (B:¬ Q g) (o:∀ b,v.q.ownBlock=some b->¬ Q b) (hl:z.length=r.q.length) (V:f.ownsRow w1.heap.size 79 7 v.q r.q.length (quL r.q z)) (W:∀ (i:Nat) (x:Int×Pkt) (y:Value×Value),r.q[i]?=some x->z[i]?=some y->Rep P w1 y.1 2 16 (pwC x.2.S)/\Rep P w1 y.2 1 8 (inC x.2.D)) (l:Alt g w1 f) (X:q0R r)
  (E:Rep P w1 y.1 2 16 (pwC x.2.S)/\Rep P w1 y.2 1 8 (inC x.2.D)) (F:w9.ownsRow w1.heap.size 79 7 c (r.q.length+1) (quL r.q z ++ akL x y)) (m:(f.alloc ob).grownBy w9 v.q.ownBlock) (G:c.ownBlock=v.q.ownBlock∨c.ownBlock=some (f.alloc ob).heap.size) :
  RQu P w1 g { r with q:=r.q ++ [x] } (w9.setCell ⟨g,96,none⟩ c):=by
 have u:Bl f (f.alloc ob):=znw f _;have p:=u.size;have hown:∀ b,v.q.ownBlock=some b->w1.heap.size<=b/\b<f.heap.size:=fun b e=>World.ownsRow.lt V b e;have Y:CAt 47 w9 g (prC r v):=(m.block g (Nat.lt_of_lt_of_le R.lt p) (fun e=>by have:=(hown g e.symm).1;omega)).trans (R.over u)
 have H:∀ b,b<f.heap.size->Q b->some b≠c.ownBlock:=fun b d hq e=>by
  rcases G with h | h
  ·exact o b (by rw[<- h,e]) hq
  ·rw[h]at e;cases e;omega
 have Z:z2N (fun b=>Q b/\some b≠c.ownBlock) w9 r v:=((U.mono (P':=fun b=>(Q b/\some b≠c.ownBlock)) fun b K d=>⟨d,H b K d⟩).over u).keep fun b d L=>m.block b L fun e=>o b e.symm d.1;have s:¬ (fun b=>Q b/\some b≠c.ownBlock) g:=fun h=>B h.1;have t:=Y.set 96 c;rw[q8O r v (r.q ++ [x]) c]at t;have n:=Z.put s 96 c
 have M:∀ b,c.ownBlock=some b->b≠g:=fun b e a0=>by
  have:=(World.ownsRow.lt F b e).1;omega
 have N:=Ln.z0n F (w':=w9.setCell ⟨g,96,none⟩ c) fun b e=>Below.heap_setCell w9 ⟨g,96,none⟩ c b (show b≠g from M b e);have A9:Alt g w1 w9:=⟨m.os.trans l.os,m.tape.trans l.tape,m.output.trans l.output,Nat.le_trans l.size (Nat.le_trans p m.size),fun k hk hn=>((m.block k (by have:=l.size;omega) (fun e=>by have:=(hown k e.symm).1;omega)).trans (u.block k (by have:=l.size;omega))).trans (l.block k hk hn)⟩
 refine⟨⟨{ v with q:=c },_,z ++ [y],t,⟨n.ws,n.set,n.lk,(by obtain⟨A,C,e⟩:=Ln.z2B F;exact⟨A,_,C,e⟩)⟩,fun b h=>w b h.1,s,fun b e h=>h.2 e.symm,by simp[hl],?_,fun i a b j d=>?_⟩,A9.put 96 c,X⟩
 ·rw[z7d r.q z x y hl,List.length_append];exact N
 ·by_cases h:i<r.q.length
  ·rw[List.getElem?_append_left h]at j;rw[List.getElem?_append_left (by rw[hl];exact h)]at d
   exact W i a b j d
  ·rw[List.getElem?_append_right (by omega)]at j
   rw[List.getElem?_append_right (by rw[hl];omega),hl]at d
   rcases Nat.eq_zero_or_pos (i - r.q.length) with h0 | h0
   ·rw[h0]at j d
    simp at j d
    subst j d;exact E
   ·rw[List.getElem?_eq_none (by simp;omega)]at j
    cases j
theorem z9K{P:Nat->Prop}{w:World}{g j:Nat}(a:¬ P g)(b:g<w.heap.size):¬ New P w j g:=fun h=>by
 rcases h with⟨h,_⟩ | h
 ·exact a h
 ·omega
theorem RQu.start{P:Nat->Prop}{w1:World}{g:Nat}{p:Pr}{v:PrV}(c:CAt 47 w1 g (prC { p with q:=[] } v))(a:v.q=J1 none 0 0)(d:z2N P w1 { p with q:=[] } v)(f:¬ P g)(j:q0R p):RQu P w1 g { p with q:=[] } w1:=by
 refine⟨⟨v,fun b=>P b/\b<w1.heap.size,[],c,d.mono fun b hl h=>⟨h,hl⟩,fun b h=>.inl h,fun h=>f h.1,fun b e=>?_,rfl,?_,fun i x y h=>?_⟩,Alt.of (Below.refl _ _),j⟩
 ·rw[a]at e;cases e
 ·rw[a];exact World.ownsRow_nil _ _ _ _
 ·cases h
noncomputable def rqC:Code:=z8O [1,1,1,1,1,1,1,1,0] (f17.body.getD .skip)
attribute [local go_sem ↓] z0O z1c z0J z0L
set_option maxRecDepth 1000000 in
theorem z8o(p:Pr)(P:Nat->Prop)(w1:World)(g:Nat)(q:List (Int×Pkt))(zq:List (Value×Value))(Aq:Option Addr)(Cq:Nat)(a5:g<w1.heap.size)(hg:¬ P g)(h0:RQu P w1 g { p with q:=[] } w1)(hl:zq.length=q.length)(hr:Rep P w1 (J1 Aq q.length Cq) 7 80 (quL q zq))(hi:∀ (i:Nat) (x:Int×Pkt) (y:Value×Value),q[i]?=some x->zq[i]?=some y->Rep P w1 y.1 2 16 (pwC x.2.S)/\Rep P w1 y.2 1 8 (inC x.2.D))(p9:∀ a∈q,(0<=a.1/\a.1<2)/\q8N a.2)(N8:q.length * 88<=140737488351232)(v0 v1 v2 v3 v4 v5 v6 v9 B5 B6 B7 B8 B9 q4 q5 q6 q7 q8 q9 r0 r3 r4 r5 r6 r7 r8 r9 s0 s1 s2 s3 s4 s5 s6 s7 s9 t0 t1 t2 t3 t4 t5 t6 t7 t8 u0 u3 u4 u5 u6 u7 u8 u9 C0 C3 C4 C8 D0 D3 D4 D5 D6 D7 D8 D9 E0 E3 E4 E5 E6 E7 E8 E9 F0 F3 F4 F5 F6 F7 F9 G0 G1 G2 G3 G4 G5 G6 G7 G8 G9 H1 H2 v7 w2 w3 w4 w7 x0 a8 a9 b4 b5 b6 b7 b9 c4 c5 c6 c7 c8 d0 d1 d2 d3 d4 d5 d6 d7 d8 d9 e7 e8 e9 f4 f5 f6 f7 f8 g0 g1 g2 g3 g5 g6 g8 g9 h4 h5 h6 h7 h8 h9 i1 i2 i3 i4 i5 i6 i7 i8 i9 j0 j1 j2 j3 j4 j5 j6 j7 j8 j9 k7 k8 k9 l4 l5 l6 l8 l9 m0 m1 m2 m3 m4 m5 m6 m7 m8 m9 n0 n3 n4 n5 n6 n7 n8 n9:Value){Q:Exit->Act->World->Prop}
  (hQ:∀ (t9 H3 H4 H5 H8 I0 I1 I2 I3 I4 I6 I7 I8 I9 J0 J1 J2 J3 J4 J5 J6 J7 J8 J9 K0 K1 K2 K3 K4 K6 K8 L0 L1 L2 L3 L4 L5 L6 L7 L8 L9 M0 M1 M2 M3:Value) (wz:World),RQu P w1 g (q.foldl z1H { p with q:=[] }) wz->Q .normal ⟨List.toArray (v0 :: v1 :: v2 :: v3 :: v4 :: v5 :: v6 :: (J2 (some ⟨g,0,none⟩)) :: (J1 Aq q.length Cq) :: t9 :: H3 :: H4 :: H5 :: H8 :: I0 :: q4 :: q5 :: q6 :: q7 :: q8 :: q9 :: r0 :: r3 :: r4 :: r5 :: r6 :: r7 :: r8 :: r9 :: s0 :: s1 :: s2 :: s3 :: s4 :: s5 :: s6 :: s7 :: s9 :: t0 :: t1 :: t2 :: t3 :: t4 :: t5 :: t6 :: t7 :: t8 :: u0 :: u3 :: u4 :: u5 :: u6 :: u7 :: u8 :: u9 :: I1 :: I2 :: I3 :: I4 :: I6 :: I7 :: I8 :: I9 :: J0 :: J1 :: J2 :: J3 :: J4 :: J5 :: J6 :: J7 :: J8 :: J9 :: K0 :: K1 :: K2 :: K3 :: K4 :: K6 :: K8 :: L0 :: L1 :: L2 :: L3 :: L4 :: L5 :: L6 :: L7 :: L8 :: L9 :: M0 :: M1 :: M2 :: M3 :: v7 :: w2 :: w3 :: w4 :: w7 :: x0 :: a8 :: a9 :: b4 :: b5 :: b6 :: b7 :: b9 :: c4 :: c5 :: c6 :: c7 :: c8 :: d0 :: d1 :: d2 :: d3 :: d4 :: d5 :: d6 :: d7 :: d8 :: d9 :: e7 :: e8 :: e9 :: f4 :: f5 :: f6 :: f7 :: f8 :: g0 :: g1 :: g2 :: g3 :: g5 :: g6 :: g8 :: g9 :: h4 :: h5 :: h6 :: h7 :: h8 :: h9 :: i1 :: i2 :: i3 :: i4 :: i5 :: i6 :: i7 :: i8 :: i9 :: j0 :: j1 :: j2 :: j3 :: j4 :: j5 :: j6 :: j7 :: j8 :: j9 :: k7 :: k8 :: k9 :: l4 :: l5 :: l6 :: l8 :: l9 :: m0 :: m1 :: m2 :: m3 :: m4 :: m5 :: m6 :: m7 :: m8 :: m9 :: n0 :: n3 :: n4 :: n5 :: n6 :: n7 :: n8 :: n9 :: []),[]⟩ wz) :
  Code.wp prog rqC Q ⟨List.toArray (v0 :: v1 :: v2 :: v3 :: v4 :: v5 :: v6 :: (J2 (some ⟨g,0,none⟩)) :: (J1 Aq q.length Cq) :: v9 :: B5 :: B6 :: B7 :: B8 :: B9 :: q4 :: q5 :: q6 :: q7 :: q8 :: q9 :: r0 :: r3 :: r4 :: r5 :: r6 :: r7 :: r8 :: r9 :: s0 :: s1 :: s2 :: s3 :: s4 :: s5 :: s6 :: s7 :: s9 :: t0 :: t1 :: t2 :: t3 :: t4 :: t5 :: t6 :: t7 :: t8 :: u0 :: u3 :: u4 :: u5 :: u6 :: u7 :: u8 :: u9 :: C0 :: C3 :: C4 :: C8 :: D0 :: D3 :: D4 :: D5 :: D6 :: D7 :: D8 :: D9 :: E0 :: E3 :: E4 :: E5 :: E6 :: E7 :: E8 :: E9 :: F0 :: F3 :: F4 :: F5 :: F6 :: F7 :: F9 :: G0 :: G1 :: G2 :: G3 :: G4 :: G5 :: G6 :: G7 :: G8 :: G9 :: H1 :: H2 :: v7 :: w2 :: w3 :: w4 :: w7 :: x0 :: a8 :: a9 :: b4 :: b5 :: b6 :: b7 :: b9 :: c4 :: c5 :: c6 :: c7 :: c8 :: d0 :: d1 :: d2 :: d3 :: d4 :: d5 :: d6 :: d7 :: d8 :: d9 :: e7 :: e8 :: e9 :: f4 :: f5 :: f6 :: f7 :: f8 :: g0 :: g1 :: g2 :: g3 :: g5 :: g6 :: g8 :: g9 :: h4 :: h5 :: h6 :: h7 :: h8 :: h9 :: i1 :: i2 :: i3 :: i4 :: i5 :: i6 :: i7 :: i8 :: i9 :: j0 :: j1 :: j2 :: j3 :: j4 :: j5 :: j6 :: j7 :: j8 :: j9 :: k7 :: k8 :: k9 :: l4 :: l5 :: l6 :: l8 :: l9 :: m0 :: m1 :: m2 :: m3 :: m4 :: m5 :: m6 :: m7 :: m8 :: m9 :: n0 :: n3 :: n4 :: n5 :: n6 :: n7 :: n8 :: n9 :: []),[]⟩ w1:=by
 obtain⟨i0,x4,x5,x6,x7⟩:=info_parts q3W;have HK:=J6 hQ;clear hQ
 conv=>arg 2;whnf
 obtain⟨N9,O0,eq,-,-,x8,-⟩:=hr.open (z1h _ _ hl) (by decide)
 cases eq;have M4:=J6 x8;have HZ:=J6 (show _/\_/\_ from⟨hl,hi,p9⟩);have H0:=J6 h0;have M5:q.length<=1599289640354:=by omega
 clear x8 hl hi p9 h0 hr
 go_upto_region 10 with fail
 go_loopw [57] (fun i wl=>∃ (k:Nat),k<=q.length/\i=.int .i64 (k:Int)/\Hid (RQu P w1 g ((q.take k).foldl z1H { p with q:=[] }) wl/\((q.take k).foldl z1H { p with q:=[] }).q.length<=k)) (fun i _=>q.length - (intOf i).toNat)
 case atStart=>exact⟨0,Nat.zero_le _,rfl,H0.out,Nat.le_refl _⟩
 case round =>
  obtain⟨k,hk,rfl,HR⟩:=hrel
  by_cases a6:k<q.length
  rotate_left
  ·obtain rfl:k=q.length:=by omega
   have hz:=HR.out.1;rw[List.take_length]at hz;have M6:=J6 hz;clear hz HR;go_wp2;exact HK.out _ _ _ _ _ _ _ _ _ _ _ _ _ _ _ _ _ _ _ _ _ _ _ _ _ _ _ _ _ _ _ _ _ _ _ _ _ _ _ _ _ _ _ _ _ _ M6.out
  have O1:(k:Int)<(q.length:Int):=by omega
  have O2:(0:Int)<=(k:Int):=by omega
  have hx:q[k]?=some q[k]:=List.getElem?_eq_getElem a6;have M7:k<zq.length:=by rw[HZ.out.1];exact a6
  have hy:zq[k]?=some zq[k]:=List.getElem?_eq_getElem M7;have z:=HZ.out.2.1 k _ _ hx hy;have a0:=HZ.out.2.2 _ (List.getElem_mem a6);have x9:(q.take (k+1)).foldl z1H { p with q:=[] }=z1H ((q.take k).foldl z1H { p with q:=[] }) q[k]:=by rw[List.take_succ_eq_append_getElem a6,List.foldl_append];rfl
  have o2:=J6 x9;generalize (q.take k).foldl z1H { p with q:=[] }=r at *
  obtain⟨bq,oq,rfl,y5,a1,hcell⟩:=M4.out (by omega)
  have y6:bq≠g:=fun e=>hg (e ▸ y5)
  have E:∀ j,j<7->∀ u,(akL q[k] zq[k])[j]?=some u->wr.cell? ⟨bq,oq+k * 7+j,none⟩=some u:=fun j hj u hu=>by
   rw[World.cell?_of_block (w:=w1) (a:=⟨bq,oq+k * 7+j,none⟩) (HR.out.1.A.block bq a1 y6),Nat.add_assoc];exact hcell _ _ ((z2W q zq k _ _ j hx hy hj).trans hu)
  have e0:=E 0 (by omega) _ rfl
  have e1:=E 1 (by omega) _ rfl
  have e2:=E 2 (by omega) _ rfl
  have e3:=E 3 (by omega) _ rfl
  have e4:=E 4 (by omega) _ rfl
  have e5:=E 5 (by omega) _ rfl
  have e6:=E 6 (by omega) _ rfl
  rw[Nat.add_zero]at e0;generalize q[k]=x at *;generalize zq[k]=y at *;obtain⟨y1,y2⟩:=y;dsimp only at z e5 e6;obtain⟨⟨R,T,U,o3,-⟩,⟨V,W,X,o4,-⟩⟩:=id z;subst o3 o4;obtain⟨x1,d⟩:=x;dsimp only at a0 z e0 e1 e2 e3 e4;obtain⟨m,rfl⟩:∃ m:Nat,x1=(m:Int):=⟨x1.toNat,by omega⟩
  have M8:m<2:=by omega
  have y7:=J6 z;have a2:=J6 a0;have bA:Bl wr (wr.alloc (J5 #[.int .i64 (m:Int),.int .i64 d.k,.int .i64 d.i,.int .i64 d.v,.int .i64 d.n,J1 R T U,J1 V W X] 79)):=znw wr _;have K5:=CAt.new 79 wr #[.int .i64 (m:Int),.int .i64 d.k,.int .i64 d.i,.int .i64 d.v,.int .i64 d.n,J1 R T U,J1 V W X];clear E hcell hx hy z x9 a1 y5 y6 a0
  go_upto_region 13 with fail
  clear e0 e1 e2 e3 e4 e5 e6;obtain⟨w5,o5⟩:∃ w5,w5=wr.alloc (J5 #[.int .i64 (m:Int),.int .i64 d.k,.int .i64 d.i,.int .i64 d.v,.int .i64 d.n,J1 R T U,J1 V W X] 79):=⟨_,rfl⟩;rw[<- o5]at K5 bA;rw[<- o5];clear o5;obtain⟨⟨v5,Q5,z5,C5,P5,y8,y9,z0,a3,O5,z1⟩,A5,I5⟩:=HR.out.1;obtain⟨AL,CL,eL⟩:=Ln.z2B O5;have O3:g<wr.heap.size:=C5.lt;have C6:=C5.over bA;have P6:=P5.over bA;have A6:=A5.trans (Alt.of bA);have O6:=Ln.z2j O5 bA;have M9:w5.cell? ⟨g,96,none⟩=some (J1 AL r.q.length CL):=by rw[<- eL];exact C6.cell 96
  have O4:=bA.size;have O8:=HR.out.2;have R6:=Rep.own (bts:=80) O6 (by omega)
  rw[eL]at R6;obtain⟨P0,P1,N0,-,-,z2,-⟩:=R6.open (z1h _ _ a3) (by decide)
  cases N0;have z3:=J6 z2;have H6:=J6 (show _/\_/\_/\_/\_/\_/\_/\_/\_/\_/\_ from⟨C6,P6,A6,O6,K5,I5,y8,y9,z0,a3,z1⟩);have a4:=J6 eL;have z4:wr.heap.size<w5.heap.size:=K5.lt;clear C5 P5 A5 O5 C6 P6 A6 O6 K5 I5 y8 y9 z0 a3 z1 R6 z2 eL HR bA
  go_upto_region 14 with fail
  go_loopw [11,64] (fun b j wl=>∃ (s:Nat),s<=r.q.length/\j=.int .i64 (s:Int)/\b=J3 (z3E (r.q.take s) (m:Int))/\Hid (Bl w5 wl)) (fun _ j _=>r.q.length - (intOf j).toNat)
  case atStart=>exact⟨0,Nat.zero_le _,rfl,rfl,Below.refl _ _⟩
  case round =>
   rename World=>wo
   obtain⟨s,P2,rfl,rfl,Y⟩:=hrel
   by_cases o6:s<r.q.length
   ·have P3:(s:Int)<(r.q.length:Int):=by omega
    have P4:(0:Int)<=(s:Int):=by omega
    have hx:r.q[s]?=some r.q[s]:=List.getElem?_eq_getElem o6;have z6:s<z5.length:=by rw[H6.out.2.2.2.2.2.2.2.2.2.1];exact o6
    have hy:z5[s]?=some z5[s]:=List.getElem?_eq_getElem z6;have z:=H6.out.2.2.2.2.2.2.2.2.2.2 s _ _ hx hy;obtain⟨bl,ol,rfl,-,a1,hcell⟩:=z3.out (by omega)
    have E:∀ j,j<7->∀ u,(akL r.q[s] z5[s])[j]?=some u->wo.cell? ⟨bl,ol+s * 7+j,none⟩=some u:=fun j hj u hu=>by
     rw[Y.out.cell (p:=⟨bl,ol+s * 7+j,none⟩) a1,Nat.add_assoc];exact hcell _ _ ((z2W r.q z5 s _ _ j hx hy hj).trans hu)
    have e0:=E 0 (by omega) _ rfl
    have e1:=E 1 (by omega) _ rfl
    have e2:=E 2 (by omega) _ rfl
    have e3:=E 3 (by omega) _ rfl
    have e4:=E 4 (by omega) _ rfl
    have e5:=E 5 (by omega) _ rfl
    have e6:=E 6 (by omega) _ rfl
    rw[Nat.add_zero]at e0;have z7:r.q.take (s+1)=r.q.take s ++ [r.q[s]]:=List.take_succ_eq_append_getElem o6;have o7:Hid (z3E (r.q.take (s+1)) (m:Int)=(z3E (r.q.take s) (m:Int) || (r.q[s].1 == (m:Int)))):=by rw[Hid,z7,z8N]
    generalize r.q[s]=x' at *;generalize z5[s]=y' at *;obtain⟨y3,y4⟩:=y';dsimp only at z e5 e6;obtain⟨⟨E1,l1,F1,o3,-⟩,⟨E2,l2,F2,o4,-⟩⟩:=id z;subst o3 o4;obtain⟨x1,x3⟩:=x';dsimp only at z e0 e1 e2 e3 e4 o7;have kk:wo.cell? ⟨wr.heap.size,0,none⟩=some (.int .i64 (m:Int)):=(Y.out.cell (p:=⟨wr.heap.size,0,none⟩) z4).trans (H6.out.2.2.2.2.1.cell 0);have Q0:wr.heap.size<wo.heap.size:=Nat.lt_of_lt_of_le z4 Y.out.size;have z8:=J6 (Y.out.alloc Y.out.size (J5 #[.int .i64 x1,.int .i64 x3.k,.int .i64 x3.i,.int .i64 x3.v,.int .i64 x3.n,J1 E1 l1 F1,J1 E2 l2 F2] 79));clear E hcell hx hy z z7 a1 Y;generalize z3E (r.q.take s) (m:Int)=fl at *;cases fl
    ·go_wp2;go_roundw
     case rel=>exact⟨s+1,by omega,by go_num,by rw[o7.out,Bool.false_or],z8⟩
     case measure=>simp[intOf];omega
    ·go_wp2;go_roundw
     case rel=>exact⟨s+1,by omega,by go_num,by rw[o7.out,Bool.true_or],z8⟩
     case measure=>simp[intOf];omega
   ·obtain rfl:s=r.q.length:=by omega
    rw[List.take_length];obtain⟨fl,o8⟩:∃ fl,z3E r.q (m:Int)=fl:=⟨_,rfl⟩;rw[o8];have z9:=J6 o8;clear o8;have C7:=H6.out.1.over Y.out;have P7:=H6.out.2.1.over Y.out;have A7:=H6.out.2.2.1.trans (Alt.of Y.out);have O7:=Ln.z2j H6.out.2.2.2.1 Y.out;have K7:=H6.out.2.2.2.2.1.over Y.out;have l:=J6 H6.out.2.2.2.2.2;have F:=J6 (show _/\_/\_/\_/\_ from⟨C7,P7,A7,O7,K7⟩);have N1:=C7.lt;have Q1:wr.heap.size<wo.heap.size:=K7.lt;have Q2:w1.heap.size<=wo.heap.size:=A7.size;have k0:wo.cell? ⟨wr.heap.size,0,none⟩=some (.int .i64 (m:Int)):=K7.cell 0;have k1:wo.cell? ⟨wr.heap.size,0+1,none⟩=some (.int .i64 d.k):=K7.cell 1;have k2:wo.cell? ⟨wr.heap.size,0+2,none⟩=some (.int .i64 d.i):=K7.cell 2;have k3:wo.cell? ⟨wr.heap.size,0+3,none⟩=some (.int .i64 d.v):=K7.cell 3;have k4:wo.cell? ⟨wr.heap.size,0+4,none⟩=some (.int .i64 d.n):=K7.cell 4;have k5:wo.cell? ⟨wr.heap.size,0+5,none⟩=some (J1 R T U):=K7.cell 5;have k6:wo.cell? ⟨wr.heap.size,0+6,none⟩=some (J1 V W X):=K7.cell 6;have L:wo.cell? ⟨g,96,none⟩=some (J1 AL r.q.length CL):=by rw[<- a4.out];exact C7.cell 96
    have a7:=C7.free 96;clear C7 P7 A7 O7 K7 H6 z3 Y M9;cases fl
    ·
     have A0:z1H r ((m:Int),d)=if (z0y r m d).2=true then (z0y r m d).1 else { (z0y r m d).1 with q:=r.q ++ [((m:Int),d)] }:=by
      unfold z1H;rw[if_neg (by rw[z9.out];simp),Int.toNat_natCast]
     have C:=J6 A0;have A3:=J6 (fun h=>z4N (p:=r) (c:=m) (x:=d) h);have N:=J6 (q6R r m d);have A4:=J6 (z6Q l.out.1 m (x:=d) ⟨a2.out.2.1,fun _=>a2.out.2.2⟩);have o9:=J6 (q3B r v5 Q5 wo m M8 d (J1 R T U) (J1 V W X) F.out.2.1 l.out.1.1 a2.out.2.1 a2.out.2.2.1 a2.out.2.2.2 ⟨_,_,_,rfl⟩ ⟨_,_,_,rfl⟩);have l7:=z0t F.out.1 (z0c _ _);clear A0;generalize z0y r m d=dl at *;obtain⟨Z,b'⟩:=dl;dsimp only at C A3 N A4 o9
     go_upto_region 21 with (go_at_call 48;refine o9.out.mono ?_;rintro e w8⟨v8,rfl,P8,A8,hb8⟩;dsimp only at P8;clear l7 k0 k1 k2 k3 k4 k5 k6;have s8:=z0z (F.out.1.over hb8) (z0c _ _) (z0c Z v8) P8.one;have B:=J6 (show _/\_/\_ from⟨P8,A8,hb8⟩);clear P8 A8 hb8;dsimp only)
     have N2:=B.out.2.2.size;have p7:¬ New Q5 wo 3 g:=z9K l.out.2.2.1 N1;have C9:=(F.out.1.over B.out.2.2).z0C (ds:=prC Z v8) (by rw[z0c,z0c])
     have P9:=B.out.1.sets (g:=g) p7 0 (prC Z v8).toList;have A9:=(F.out.2.2.1.trans (Alt.of B.out.2.2)).sets (prC Z v8).toList 0;have hown:∀ b,v5.q.ownBlock=some b->w1.heap.size<=b/\b<wo.heap.size:=fun b e=>World.ownsRow.lt F.out.2.2.2.1 b e;have O9:=Ln.z0n (Ln.z2j F.out.2.2.2.1 B.out.2.2) (w':=w8.setCells g 0 (prC Z v8).toList) fun b e=>z0f (show b≠g by have:=(hown b e).1;omega) _ _ _
     have K9:=(F.out.2.2.2.2.over B.out.2.2).others (c:=g) (o:=0) (by omega) (prC Z v8).toList
     rw[<- B.out.2.1]at O9
     have B0:∀ b,v8.q.ownBlock=some b->¬ New Q5 wo 3 b:=fun b e=>by
      rw[B.out.2.1]at e;exact z9K (l.out.2.2.2.1 b e) (hown b e).2
     have o0:∀ b,New Q5 wo 3 b->New P w1 0 b:=fun b h=>by
      rcases h with⟨h,_⟩ | h
      ·exact l.out.2.1 b h
      ·exact .inr (by omega)
     have M:=J6 (B.out.2.1.trans a4.out);have t:=J6 (show _/\_/\_/\_/\_/\_/\_/\_ from⟨C9,P9,A9,O9,K9,o0,p7,B0⟩);clear C9 P9 A9 O9 K9 hown B0 o0 p7 B s8 o9 L a7 F N2;generalize w8.setCells g 0 (prC Z v8).toList=w9 at *;cases b'
     ·have e:=A3.out rfl;subst e;replace C:=J6 (C.out.trans (if_neg (by simp)))
      have N6:=t.out.1.lt;have N7:wr.heap.size<w9.heap.size:=t.out.2.2.2.2.1.lt;have Q3:w1.heap.size<=w9.heap.size:=t.out.2.2.1.size;have k0:w9.cell? ⟨wr.heap.size,0,none⟩=some (.int .i64 (m:Int)):=t.out.2.2.2.2.1.cell 0;have k1:w9.cell? ⟨wr.heap.size,0+1,none⟩=some (.int .i64 d.k):=t.out.2.2.2.2.1.cell 1;have k2:w9.cell? ⟨wr.heap.size,0+2,none⟩=some (.int .i64 d.i):=t.out.2.2.2.2.1.cell 2;have k3:w9.cell? ⟨wr.heap.size,0+3,none⟩=some (.int .i64 d.v):=t.out.2.2.2.2.1.cell 3;have k4:w9.cell? ⟨wr.heap.size,0+4,none⟩=some (.int .i64 d.n):=t.out.2.2.2.2.1.cell 4;have k5:w9.cell? ⟨wr.heap.size,0+5,none⟩=some (J1 R T U):=t.out.2.2.2.2.1.cell 5;have k6:w9.cell? ⟨wr.heap.size,0+6,none⟩=some (J1 V W X):=t.out.2.2.2.2.1.cell 6;have L:w9.cell? ⟨g,96,none⟩=some (J1 AL Z.q.length CL):=by rw[<- M.out];exact t.out.1.cell 96
      have a7:=t.out.1.free 96;have o1:=World.ownsRow.alloc t.out.2.2.2.1 (J5 #[.int .i64 (m:Int),.int .i64 d.k,.int .i64 d.i,.int .i64 d.v,.int .i64 d.n,J1 R T U,J1 V W X] 79);have N3:=J6 o1;clear o1
      go_upto_region 23 with (at_builtin;refine wpList_append_own_at _ rfl _ _ 45 rfl w1.heap.size 79 i0 (J4 #[.int .i64 0,.int .i64 0,.int .i64 0,.int .i64 0,.int .i64 0,J1 none 0 0,J1 none 0 0]) 7 88 underlying45 x4 x5 x6 x7 rfl (by decide) _ _ _ rfl (by rw[<- M.out];exact N3.out) ⟨w9.heap.size,0,none⟩ 1 1 (akL ((m:Int),d) (J1 R T U,J1 V W X)) rfl rfl (z5a w9 ((m:Int),d) (J1 R T U,J1 V W X) 79) (fun u hu=>by simp only[akL,List.mem_cons,List.not_mem_nil,or_false]at hu;rcases hu with rfl | rfl | rfl | rfl | rfl | rfl | rfl <;> rfl) (by unfold maxLen;omega) (by omega) (by simp;omega) ?_;intro v9 B3 G f _ H;rw[<- M.out]at f H;obtain⟨A9,C9,p8⟩:=Ln.z2B G;subst p8;have X9:=z8d a5 t.out.1 t.out.2.2.2.1 f;have c9:B3.cell? ⟨g,96,none⟩=some v8.q:=X9.cell 96;rw[M.out]at c9;have f9:=X9.free 96;have N4:=X9.lt;have K:=J6 (show _/\_/\_ from⟨G,f,H⟩);clear G f H X9 k0 k1 k2 k3 k4 k5 k6 L a7)
      have HN:Hid (RQu P w1 g { Z with q:=Z.q ++ [((m:Int),d)] } (B3.setCell ⟨g,96,none⟩ (J1 A9 (Z.q.length+1) C9))):=RQu.wait a5 t.out.1 t.out.2.1 t.out.2.2.2.2.2.1 t.out.2.2.2.2.2.2.1 t.out.2.2.2.2.2.2.2 l.out.2.2.2.2.1 t.out.2.2.2.1 l.out.2.2.2.2.2 t.out.2.2.1 l.out.1 y7.out K.out.1 K.out.2.1 K.out.2.2
      clear c9 f9;go_wp2;exact⟨⟨k+1,by omega,by go_num,by rw[o2.out,C.out];exact⟨HN.out,by simp;omega⟩⟩,by simp[intOf];omega⟩
     ·replace C:=J6 (C.out.trans (if_pos rfl));have HN:Hid (RQu P w1 g Z w9):=⟨⟨v8,_,z5,t.out.1,t.out.2.1,t.out.2.2.2.2.2.1,t.out.2.2.2.2.2.2.1,t.out.2.2.2.2.2.2.2,by rw[N.out];exact l.out.2.2.2.2.1,by rw[N.out];exact t.out.2.2.2.1,by rw[N.out];exact l.out.2.2.2.2.2⟩,t.out.2.2.1,A4.out⟩
      have Q4:=N.out;go_wp2;exact⟨⟨k+1,by omega,by go_num,by rw[o2.out,C.out];exact⟨HN.out,by rw[N.out];omega⟩⟩,by simp[intOf];omega⟩
    ·
     have C:Hid (z1H r ((m:Int),d)={ r with q:=r.q ++ [((m:Int),d)] }):=by
      unfold z1H;exact if_pos z9.out
     have B4:=World.ownsRow.alloc F.out.2.2.2.1 (J5 #[.int .i64 (m:Int),.int .i64 d.k,.int .i64 d.i,.int .i64 d.v,.int .i64 d.n,J1 R T U,J1 V W X] 79);have N5:=J6 B4;clear B4
     go_upto_region 23 with (at_builtin;refine wpList_append_own_at _ rfl _ _ 45 rfl w1.heap.size 79 i0 (J4 #[.int .i64 0,.int .i64 0,.int .i64 0,.int .i64 0,.int .i64 0,J1 none 0 0,J1 none 0 0]) 7 88 underlying45 x4 x5 x6 x7 rfl (by decide) _ _ _ rfl (by rw[<- a4.out];exact N5.out) ⟨wo.heap.size,0,none⟩ 1 1 (akL ((m:Int),d) (J1 R T U,J1 V W X)) rfl rfl (z5a wo ((m:Int),d) (J1 R T U,J1 V W X) 79) (fun u hu=>by simp only[akL,List.mem_cons,List.not_mem_nil,or_false]at hu;rcases hu with rfl | rfl | rfl | rfl | rfl | rfl | rfl <;> rfl) (by unfold maxLen;omega) (by omega) (by simp;omega) ?_;intro v9 w9 G f _ H;rw[<- a4.out]at f H;obtain⟨A9,C9,p8⟩:=Ln.z2B G;subst p8;have X9:=z8d a5 F.out.1 F.out.2.2.2.1 f;have c9:w9.cell? ⟨g,96,none⟩=some v5.q:=X9.cell 96;rw[a4.out]at c9;have f9:=X9.free 96;have N4:=X9.lt;have K:=J6 (show _/\_/\_ from⟨G,f,H⟩);clear G f H X9 k0 k1 k2 k3 k4 k5 k6 L a7)
     have HN:Hid (RQu P w1 g { r with q:=r.q ++ [((m:Int),d)] } (w9.setCell ⟨g,96,none⟩ (J1 A9 (r.q.length+1) C9))):=RQu.wait a5 F.out.1 F.out.2.1 l.out.2.1 l.out.2.2.1 l.out.2.2.2.1 l.out.2.2.2.2.1 F.out.2.2.2.1 l.out.2.2.2.2.2 F.out.2.2.1 l.out.1 y7.out K.out.1 K.out.2.1 K.out.2.2
     clear c9 f9;go_wp2;exact⟨⟨k+1,by omega,by go_num,by rw[o2.out,C.out];exact⟨HN.out,by simp;omega⟩⟩,by simp[intOf];omega⟩
end Pv
namespace Pv
open Go.RowKit
def tells(p:Pr):Nat->Pr
 | 0=>p
 | k+1=>z1B (tells p k) k
structure TQu(P:Nat->Prop)(w1:World)(g:Nat)(r:Pr)(wl:World):Prop where
 st:∃ (v:PrV) (Q:Nat->Prop),CAt 47 wl g (prC r v)/\PIn Q wl r v/\(∀ b,Q b->New P w1 0 b)/\¬ Q g
 A:Alt g w1 wl
def Joins(F:Option Addr->Nat->Act)(R:Option Addr->Nat->World->Prop)(ex:Exit)(a:Act)(w:World):Prop:=∃ A C,ex=Exit.normal/\a=F A C/\R A C w
theorem z7z{P:Program}{c:Code}{Q:Exit->Act->World->Prop}{a:Act}{w:World}(R:Option Addr->Nat->World->Prop)(F:Option Addr->Nat->Act)(h1:Code.wp P c (Joins F R) a w)(h2:∀ A C w',R A C w'->Q Exit.normal (F A C) w'):Code.wp P c Q a w:=
 Code.wp_mono (fun e b w' h=>by obtain⟨A,C,rfl,rfl,h⟩:=h;exact h2 A C w' h) h1
theorem z6r(p:Pr):∀ k,(tells p k).h=p.h/\(tells p k).t=p.t/\(tells p k).set=p.set/\∀ j,k<=j->(tells p k).L j=p.L j
 | 0=>⟨rfl,rfl,rfl,fun _ _=>rfl⟩
 | k+1=>by
  obtain⟨h1,h2,h3,a⟩:=z6r p k;obtain⟨b,c,e,d,-⟩:=q3x (tells p k) k;exact⟨b.trans h1,c.trans h2,d.trans h3,fun j f=>(q3e (tells p k) k j (by omega)).trans (a j (by omega))⟩
structure LnK(g g7:Nat)(a b c d e:Value)(wx:World):Prop where
 l0:wx.cell? ⟨g7,0,none⟩=some a
 l1:wx.cell? ⟨g7,0+1,none⟩=some b
 l2:wx.cell? ⟨g7,0+2,none⟩=some c
 l3:wx.cell? ⟨g7,0+3,none⟩=some d
 l65:wx.cell? ⟨g,65,none⟩=some e
theorem LnK.put{g g7 o:Nat}{a b c d e:Value}{w:World}(h:LnK g g7 a b c d e w)(f:g≠g7)(i:65<o)(v:Value):LnK g g7 a b c d e (w.setCell ⟨g,o,none⟩ v):=
 ⟨(World.cell?_setCell_far _ _ _ _ f).trans h.l0,(World.cell?_setCell_far _ _ _ _ f).trans h.l1,(World.cell?_setCell_far _ _ _ _ f).trans h.l2,(World.cell?_setCell_far _ _ _ _ f).trans h.l3,
  (World.cell?_setCell_other _ _ _ _ (by intro e;injection e with _ e _;omega)).trans h.l65⟩
theorem LnK.sets{g g7 o:Nat}{a b c d e:Value}{w:World}(h:LnK g g7 a b c d e w)(i:g≠g7)(j:65<o)(f:List Value):LnK g g7 a b c d e (w.setCells g o f):=
 ⟨(World.cell?_setCells_out g f o w _ fun e _=>absurd e.symm i).trans h.l0,(World.cell?_setCells_out g f o w _ fun e _=>absurd e.symm i).trans h.l1,(World.cell?_setCells_out g f o w _ fun e _=>absurd e.symm i).trans h.l2,(World.cell?_setCells_out g f o w _ fun e _=>absurd e.symm i).trans h.l3,
  (World.cell?_setCells_out g f o w _ fun _ _=>.inl j).trans h.l65⟩
theorem q2o{P f:Nat->Prop}{w1 wr c:World}{g k o:Nat}{r:Pr}{v:PrV}{x:Ln.Line}{S U T:Value}(i:k<2)(m:o=66+k * 14)(n:CAt 47 c g (prC r v))(p:PIn (New f wr 0) c r v)(j:¬ New f wr 0 g)(hq:∀ b,New f wr 0 b->New P w1 0 b)(q:Alt g w1 c)(s:z1I (New f wr 0) c S 1 16 (txC x.S))(t:z1I (New f wr 0) c U 1 8 (inC x.D))(u:Rep (New f wr 0) c T 2 16 (pwC r.set)) :
  TQu P w1 g { r with L:=z3d r.L k { r.L k with out:=x,told:=r.set,fresh:=false,done:=[] } } ((((c.setCells g (o+6) [S,U,J I x.g,J3 x.cl]).setCell ⟨g,o+3,none⟩ T).setCell ⟨g,o+4,none⟩ (J3 false)).setCell ⟨g,o+5,none⟩ (J1 none 0 0)):=by
 subst m;have h:∀ b,New f wr 0 b->b≠g:=fun b a e=>j (by rw[<- e];exact a)
 have d:∀ b,New f wr 0 b->((((c.setCells g (66+k * 14+6) [S,U,J I x.g,J3 x.cl]).setCell ⟨g,66+k * 14+3,none⟩ T).setCell ⟨g,66+k * 14+4,none⟩ (J3 false)).setCell ⟨g,66+k * 14+5,none⟩ (J1 none 0 0)).heap[b]?=c.heap[b]?:=fun b a=>(Below.heap_setCell _ _ _ _ (h b a)).trans ((Below.heap_setCell _ _ _ _ (h b a)).trans ((Below.heap_setCell _ _ _ _ (h b a)).trans (z0f (h b a) _ _ _)));have w:CAt 47 (c.setCells g (66+k * 14+6) [S,U,J I x.g,J3 x.cl]) g (((((prC r v).setIfInBounds (66+k * 14+6) S).setIfInBounds (66+k * 14+7) U).setIfInBounds (66+k * 14+8) (J I x.g)).setIfInBounds (66+k * 14+9) (J3 x.cl)):=(((n.set (66+k * 14+6) _).set (66+k * 14+7) _).set (66+k * 14+8) _).set (66+k * 14+9) _;have l:=((w.set (66+k * 14+3) T).set (66+k * 14+4) (J3 false)).set (66+k * 14+5) (J1 none 0 0);rw[q3a k i x r.set T S U]at l;exact⟨⟨_,_,l,q4x (p.keep fun b a _=>d b a) k x _ _ _ (u.keep fun b a _=>d b a) (s.keep fun b a _=>d b a) (t.keep fun b a _=>d b a),hq,j⟩,(((q.sets _ _).put _ _).put _ _).put _ _⟩
noncomputable def rtC:Code:=z8O [1,1,1,1,1,1,1,1,1,1,1,1,0] (f17.body.getD .skip)
attribute [local go_sem ↓] z0O z1c z0J z0L z4f z4t
set_option maxRecDepth 1000000 in
theorem z9b(p:Pr)(P:Nat->Prop)(w1:World)(g:Nat)(now:Int)(hn:p.t=now)(P1:0<=now)(P2:now<=1099511627776)(_hgw:g<w1.heap.size)(h0:TQu P w1 g p w1)(d8:z2h (-1) p.set=true)(b6:∀ c,c<2->z2h (-1) (p.L c).told=true)(v0 v2 v3 v4 v5 v6 v8 v9 g2 g3 g5 h4 h5 h7 N2 N3 N4 N5 N6 N7 h8 h9 i0 i1 i2 i3 i4 i5 i6 i7 i8 i9 j0 j1 j2 j3 j4 j5 j6 j7 j8 j9 k0 k1 k2 k3 k4 k5 k6 k7 k8 k9 l4 l5 l6 l7 l8 l9 m0 m1 m2 m3 m4 m5 m6 m7 m8 m9 n0 n3 n4 n5 n6 n7 n8 n9 o0 o1 o2 o3 o4 o5 o6 o7 o8 o9 p7 p8 p9 q6 q7 q8 q9 r0 r5 r6 r7 r8 d9 e0 e1 e2 e3 e4 e5 r9 s0 s1 s2 s3 s4 s5 s6 s7 s8 s9 t0 t1 t2 t3 t4 t5 t6 t7 t8 t9 u0 u3 u4 u5 u6 u7 u8 u9 v7 w4 w7 x0 x1 x2 x3 x4 x5 x6 x7 x8 x9 y3 y4 y5 y6 y7 y8 y9 z0 z6 z7 z8 z9 A0 A3 A4 A6 A7 A9 B0 B1 B2 B3 B4 B5 B6 B7 B8 B9 C0 C4 C6 C7 C9 D0 D1 D2 D3 D4 e6 e7:Value){Q:Exit->Act->World->Prop}
  (hQ:∀ (N8 N9 O0 O1 O2 O3 D5 D6 D7 D8 D9 E2 E3 E4 E5 E6 E7 E8 E9 F0 F3 F4 F5 F6 F7 F9 G0 G1 G2 G3 G4 G5 G6 G7 G8 G9 H1 H3 H4 H6 H7 H8 H9 I0 I1 I2 I3 I4 I5 I6 I7 I8 I9 J0 J1 J2 J3 J4 J5 J6 J7 J8 J9 K0 K3 K4 K5 K6 K7 K8 K9 L0 L1 L2 L3 L4 L5 L6 L7 L8 L9 M0 M1 M2 M3 M4:Value) (wz:World),TQu P w1 g (tells p 2) wz->Q .normal ⟨List.toArray (v0 :: (.int .i64 now) :: v2 :: v3 :: v4 :: v5 :: v6 :: (J2 (some ⟨g,0,none⟩)) :: v8 :: v9 :: g2 :: g3 :: g5 :: h4 :: h5 :: h7 :: N8 :: N9 :: O0 :: O1 :: O2 :: O3 :: h8 :: h9 :: i0 :: i1 :: i2 :: i3 :: i4 :: i5 :: i6 :: i7 :: i8 :: i9 :: j0 :: j1 :: j2 :: j3 :: j4 :: j5 :: j6 :: j7 :: j8 :: j9 :: k0 :: k1 :: k2 :: k3 :: k4 :: k5 :: k6 :: k7 :: k8 :: k9 :: l4 :: l5 :: l6 :: l7 :: l8 :: l9 :: m0 :: m1 :: m2 :: m3 :: m4 :: m5 :: m6 :: m7 :: m8 :: m9 :: n0 :: n3 :: n4 :: n5 :: n6 :: n7 :: n8 :: n9 :: o0 :: o1 :: o2 :: o3 :: o4 :: o5 :: o6 :: o7 :: o8 :: o9 :: p7 :: p8 :: p9 :: q6 :: q7 :: q8 :: q9 :: r0 :: r5 :: r6 :: r7 :: r8 :: d9 :: e0 :: e1 :: e2 :: e3 :: e4 :: e5 :: D5 :: D6 :: D7 :: D8 :: D9 :: E2 :: E3 :: E4 :: E5 :: E6 :: E7 :: E8 :: E9 :: F0 :: F3 :: F4 :: F5 :: F6 :: F7 :: F9 :: G0 :: G1 :: G2 :: G3 :: G4 :: G5 :: G6 :: G7 :: G8 :: G9 :: H1 :: H3 :: H4 :: H6 :: H7 :: H8 :: H9 :: I0 :: I1 :: I2 :: I3 :: I4 :: I5 :: I6 :: I7 :: I8 :: I9 :: J0 :: J1 :: J2 :: J3 :: J4 :: J5 :: J6 :: J7 :: J8 :: J9 :: K0 :: K3 :: K4 :: K5 :: K6 :: K7 :: K8 :: K9 :: L0 :: L1 :: L2 :: L3 :: L4 :: L5 :: L6 :: L7 :: L8 :: L9 :: M0 :: M1 :: M2 :: M3 :: M4 :: e6 :: e7 :: []),[]⟩ wz) :
  Code.wp prog rtC Q ⟨List.toArray (v0 :: (.int .i64 now) :: v2 :: v3 :: v4 :: v5 :: v6 :: (J2 (some ⟨g,0,none⟩)) :: v8 :: v9 :: g2 :: g3 :: g5 :: h4 :: h5 :: h7 :: N2 :: N3 :: N4 :: N5 :: N6 :: N7 :: h8 :: h9 :: i0 :: i1 :: i2 :: i3 :: i4 :: i5 :: i6 :: i7 :: i8 :: i9 :: j0 :: j1 :: j2 :: j3 :: j4 :: j5 :: j6 :: j7 :: j8 :: j9 :: k0 :: k1 :: k2 :: k3 :: k4 :: k5 :: k6 :: k7 :: k8 :: k9 :: l4 :: l5 :: l6 :: l7 :: l8 :: l9 :: m0 :: m1 :: m2 :: m3 :: m4 :: m5 :: m6 :: m7 :: m8 :: m9 :: n0 :: n3 :: n4 :: n5 :: n6 :: n7 :: n8 :: n9 :: o0 :: o1 :: o2 :: o3 :: o4 :: o5 :: o6 :: o7 :: o8 :: o9 :: p7 :: p8 :: p9 :: q6 :: q7 :: q8 :: q9 :: r0 :: r5 :: r6 :: r7 :: r8 :: d9 :: e0 :: e1 :: e2 :: e3 :: e4 :: e5 :: r9 :: s0 :: s1 :: s2 :: s3 :: s4 :: s5 :: s6 :: s7 :: s8 :: s9 :: t0 :: t1 :: t2 :: t3 :: t4 :: t5 :: t6 :: t7 :: t8 :: t9 :: u0 :: u3 :: u4 :: u5 :: u6 :: u7 :: u8 :: u9 :: v7 :: w4 :: w7 :: x0 :: x1 :: x2 :: x3 :: x4 :: x5 :: x6 :: x7 :: x8 :: x9 :: y3 :: y4 :: y5 :: y6 :: y7 :: y8 :: y9 :: z0 :: z6 :: z7 :: z8 :: z9 :: A0 :: A3 :: A4 :: A6 :: A7 :: A9 :: B0 :: B1 :: B2 :: B3 :: B4 :: B5 :: B6 :: B7 :: B8 :: B9 :: C0 :: C4 :: C6 :: C7 :: C9 :: D0 :: D1 :: D2 :: D3 :: D4 :: e6 :: e7 :: []),[]⟩ w1:=by
 have HK:=J6 hQ;clear hQ
 conv=>arg 2;whnf
 have H0:=J6 h0;have HT:=J6 (show _/\_/\_ from⟨hn,d8,b6⟩);clear h0 hn d8 b6
 go_upto_region 28 with fail
 go_loopw [107] (fun i wl=>∃ (k:Nat),k<=2/\i=.int .i64 (k:Int)/\Hid (TQu P w1 g (tells p k) wl)) (fun i _=>2 - (intOf i).toNat)
 case atStart=>exact⟨0,Nat.zero_le _,rfl,H0⟩
 case round =>
  obtain⟨k,hk,rfl,HR⟩:=hrel
  by_cases m:k<2
  rotate_left
  ·obtain rfl:k=2:=by omega
   go_wp2;exact HK.out _ _ _ _ _ _ _ _ _ _ _ _ _ _ _ _ _ _ _ _ _ _ _ _ _ _ _ _ _ _ _ _ _ _ _ _ _ _ _ _ _ _ _ _ _ _ _ _ _ _ _ _ _ _ _ _ _ _ _ _ _ _ _ _ _ _ _ _ _ _ _ _ _ _ _ _ _ _ _ _ _ _ _ _ _ _ _ HR.out
  have P3:(k:Int)<2:=by omega
  have P4:(0:Int)<=(k:Int):=by omega
  obtain⟨r1,r2,r3,r4⟩:=z6r p k;have U:Hid (tells p (k+1)=z1B (tells p k) k):=rfl;have M5:z2h (-1) (tells p k).set=true:=by rw[r3];exact HT.out.2.1
  have M6:z2h (-1) ((tells p k).L k).told=true:=by rw[r4 k (Nat.le_refl _)];exact HT.out.2.2 k m
  have O4:(tells p k).t=now:=r2.trans HT.out.1;generalize tells p k=r at *;obtain⟨⟨v,V,C5,P5,M7,M8⟩,A5⟩:=HR.out
  have hD:z1B r k=if z3n r (r.L k)=true then r
   else if Cd.z0o 1 r.h 0 0 (Df.z2x (r.L k).told r.set) (r.L k).done=0 then
    if Ln.z4M (r.L k).out (now+40)=0 then { r with L:=z3d r.L k { r.L k with out:=Ln.z5z (r.L k).out (Cd.encS 1 r.h 0 0 (Df.z2x (r.L k).told r.set) (r.L k).done) (now+40),told:=r.set,fresh:=false,done:=[] } } else r
   else r:=by rw[<- O4];rfl
  have M9:z3n r (r.L k)=(!(r.L k).on || (decide (((Df.z2x (r.L k).told r.set).length:Int)+((r.L k).done.length:Int)=0) && !(r.L k).fresh)):=by
   have O5:=q4V M6 M5;unfold z3n;cases (r.L k).on
   ·rfl
   ·show (decide ((r.L k).told=r.set) && !(r.L k).fresh && decide ((r.L k).done.length=0))=(decide (((Df.z2x (r.L k).told r.set).length:Int)+((r.L k).done.length:Int)=0) && !(r.L k).fresh)
    rw[Bool.eq_iff_iff];simp only[Bool.and_eq_true,decide_eq_true_eq];rw[<- O5]
    constructor
    ·rintro⟨⟨h1,h2⟩,h3⟩;exact⟨by omega,h2⟩
    ·rintro⟨h1,h2⟩;exact⟨⟨by omega,h2⟩,by omega⟩
  have HD:=J6 hD;have W:=J6 M9;have h6:=q2E (r.L k).told r.set;clear hD M9 r1 r2 r3 r4 M5 M6;obtain⟨At,nt,Ct,et⟩:=(P5.lk k m).told.one';obtain⟨As,ns,Cs,d4⟩:=P5.set.one';obtain⟨Ad,E,ed,sd,-⟩:=(P5.lk k m).done.open (z0M _) (by decide)
  have P6:(r.L k).done.length<=17592186044404:=by omega
  obtain⟨o,ho⟩:∃ o,o=66+k * 14:=⟨_,rfl⟩;have HO:=J6 ho
  have b7:Hid (∀ wx,Bl wr wx->wx.cell? ⟨g,o+3,none⟩=some (J1 At nt Ct)/\wx.cell? ⟨g,65,none⟩=some (J1 As ns Cs)):=fun wx q=>by
   have C:=C5.over q;rw[<- et,<- d4,ho];exact⟨(C.lk m).facts.2.2.2.1,C.cell 65⟩
  have e8:=J6 (fun (wx:World) (q:Bl wr wx)=>q2R (r.L k).told r.set (v.l k).told v.set V V wx ((P5.lk k m).told.over q) (P5.set.over q));rw[et,d4]at e8;have w:=J6 (show _/\_/\_/\_/\_ from⟨C5,P5,M7,M8,A5⟩);have HE:=J6 (show _/\_/\_ from⟨et,d4,ed⟩);have d5:=C5.lt;generalize Df.z2x (r.L k).told r.set=dl at *;clear C5 P5 A5 M7 M8 HR et d4 ed sd
  go_upto_region 31 with fail
  rw[<- ho];clear ho;apply z7z (fun Au Cu w'=>Rep (fun b=>wr.heap.size<=b) w' (J1 Au dl.length Cu) 2 16 (pwC dl)/\Bl wr w')
  ·refine wp_region_noPanic ?_;refine wp_region_held_drew (S:=fun wx=>Bl wr wx) (by kernel_rfl) (Below.refl _ _).drew (fun d=>?_)
   refine O.Z 0 (J2 (some ⟨g,o,none⟩)) 113 rfl rfl d (fun wx a=>?_) ?_
   ·try dsimp only at a
    go_simp
   simp only[O.pp,O.pb,O.pc];refine O.Z 1 (J2 (some ⟨g,o,none⟩)) 114 rfl rfl d (fun wx a=>?_) ?_
   ·try dsimp only at a
    go_simp
   simp only[O.pp,O.pb,O.pc];refine O.Z 2 (J2 (some ⟨g,o+3,none⟩)) 115 rfl rfl d (fun wx a=>?_) ?_
   ·try dsimp only at a
    go_simp
   simp only[O.pp,O.pb,O.pc];refine O.Z 3 (J1 At nt Ct) 116 rfl rfl d (fun wx a=>?_) ?_
   ·try dsimp only at a
    obtain⟨f3,O6⟩:=b7.out wx a;go_simp
   simp only[O.pp,O.pb,O.pc];refine O.Z 4 (J2 (some ⟨g,65,none⟩)) 117 rfl rfl d (fun wx a=>?_) ?_
   ·try dsimp only at a
    go_simp
   simp only[O.pp,O.pb,O.pc];refine O.Z 5 (J1 As ns Cs) 118 rfl rfl d (fun wx a=>?_) ?_
   ·try dsimp only at a
    obtain⟨f3,O6⟩:=b7.out wx a;go_simp
   simp only[O.pp,O.pb,O.pc];refine wpAnyH_ready (rs:=[6]) (by kernel_rfl) (by simp) ?_
   refine AllReadyH.cons rfl (fun K s=>?_) AllReadyH.nil;go_simp
   go_at_call 51
   refine (e8.out _ (by exact d)).mono ?_
   rintro e w2⟨u,rfl,U2,d6⟩;obtain⟨Au,Cu,rfl,-⟩:=U2.open (z0r _) (by decide)
   replace d:=zbt d d6;dsimp only;refine s.out _ _ d (fun d=>?_);clear s K
   try simp only[O.pp,O.pb,O.pc]
   refine O.Z 7 (J1 Au dl.length Cu) 18 rfl rfl d (fun wx a=>?_) ?_
   ·try dsimp only at a
    go_simp
   simp only[O.pp,O.pb,O.pc];refine wpAnyH_done (by kernel_rfl) ?_ _
   exact NoPanic.normal ⟨Au,Cu,rfl,rfl,U2.over (Below.refl _ _),d⟩
  rintro Au Cu w2⟨U2,d6⟩;have H2:=J6 (show _/\_ from⟨U2,d6⟩);have a9:Hid (∀ wx,Bl wr wx->TQu P w1 g r wx):=fun wx q=>⟨⟨v,New V wr 0,w.out.1.over q,w.out.2.1.z2w q 0,fun b h=>(by rcases h with⟨h,_⟩ | h;exact w.out.2.2.1 b h;exact .inr (by have:=w.out.2.2.2.2.size;omega)),z1t w.out.2.2.2.1 d5⟩,w.out.2.2.2.2.trans (Alt.of q)⟩
  have b9:Hid (∀ wx,Bl w2 wx->wx.cell? ⟨g,0,none⟩=some (.int .i64 r.h)/\wx.cell? ⟨g,o,none⟩=some (J3 (r.L k).on)/\wx.cell? ⟨g,o+4,none⟩=some (J3 (r.L k).fresh)/\wx.cell? ⟨g,o+5,none⟩=some (J1 Ad (r.L k).done.length E)):=fun wx q=>by
   have C:=(w.out.1.over H2.out.2).over q;have hf:=(C.lk m).facts;rw[<- HO.out,HE.out.2.2]at hf;exact⟨C.cell 0,hf.1,hf.2.2.2.2.1,hf.2.2.2.2.2.1⟩
  obtain⟨-,a0,a4,a5⟩:=b9.out w2 (Below.refl _ _);have P7:g<w2.heap.size:=Nat.lt_of_lt_of_le d5 H2.out.2.size;have N0:IntKind.i64.wrap ((dl.length:Int)+((r.L k).done.length:Int))=(dl.length:Int)+((r.L k).done.length:Int):=z5V (by omega) (by omega)
  clear U2 d6 b7 e8;simp only[Exit.then];apply_assumption;cases b4:(r.L k).on
  ·have hq:Hid (z1B r k=r):=HD.out.trans (if_pos (by rw[W.out,b4];rfl))
   rw[b4]at a0;clear HD W;go_wp2;go_roundw
   case rel=>exact⟨k+1,by omega,by go_num,by rw[U.out,hq.out];exact a9.out _ H2.out.2⟩
   case measure=>simp[intOf];omega
  rw[b4]at a0
  by_cases hsum:(dl.length:Int)+((r.L k).done.length:Int)=0
  ·have O7:((dl.length:Int)+((r.L k).done.length:Int) == 0)=true:=by simpa using hsum
   cases d7:(r.L k).fresh
   ·have hq:Hid (z1B r k=r):=HD.out.trans (if_pos (by rw[W.out,b4,d7];simp[hsum]))
    rw[d7]at a4;have P9:dl.length=0:=by omega
    have O8:(r.L k).done.length=0:=by omega
    rw[O8]at a5;clear HD W;go_wp2;exact⟨⟨k+1,by omega,by go_num,by rw[U.out,hq.out];exact a9.out _ H2.out.2⟩,by simp[intOf];omega⟩
   ·have c4:Hid (z3n r (r.L k)=false):=by rw[Hid,W.out,b4,d7];simp
    rw[d7]at a4
    go_upto_region 33 with fail
    have n:=J6 (HD.out.trans (if_neg (by rw[c4.out];simp)))
    have F:Hid (∀ wx,Bl w2 wx->wx.cell? ⟨g,0,none⟩=some (.int .i64 r.h)/\wx.cell? ⟨g,o+5,none⟩=some (J1 Ad (r.L k).done.length E)):=fun wx q=>by
     obtain⟨b0,-,-,b5⟩:=b9.out wx q;exact⟨b0,b5⟩
    have c5:Hid (∀ wx,Bl w2 wx->Calls prog 52 #[J4 #[.int .i64 1,.int .i64 r.h,.int .i64 0,.int .i64 0,J1 Au dl.length Cu,J1 Ad (r.L k).done.length E]] wx fun e w'=>e=.returned (.tuple #[.string (Cd.encS 1 r.h 0 0 dl (r.L k).done),.int .i64 (Cd.z0o 1 r.h 0 0 dl (r.L k).done)])/\Bl wx w'):=fun wx q=>by
     have q2:=(((w.out.2.1.lk k m).done.over H2.out.2).over q).mono (P':=fun _=>True) fun _ _ _=>trivial;rw[HE.out.2.2]at q2;have q1:=(H2.out.1.over q).mono (P':=fun _=>True) fun _ _ _=>trivial;obtain⟨A1,C1,A2,C2,sb,so,db,dO,z1,z2,hL⟩:=Rep.lies q1 q2;cases z1;cases z2;exact Cd.q6x 1 r.h 0 0 dl (r.L k).done Au Ad Cu E sb so db dO wx hL
    generalize Cd.encS 1 r.h 0 0 dl (r.L k).done=es at *;generalize Cd.z0o 1 r.h 0 0 dl (r.L k).done=E0 at *;clear HD W c4 a0 a4 a5 N0;apply z2d (fun w'=>Bl w2 w')
    ·refine wp_region_noPanic ?_;refine wp_region_held_drew (S:=fun wx=>Bl w2 wx) (by kernel_rfl) (Below.refl _ _).drew (fun d=>?_)
     refine O.Z 0 (J2 (some ⟨g,0,none⟩)) 144 rfl rfl d (fun wx a=>?_) ?_
     ·try dsimp only at a
      go_simp
     simp only[O.pp,O.pb,O.pc];refine O.Z 1 (.int .i64 r.h) 145 rfl rfl d (fun wx a=>?_) ?_
     ·try dsimp only at a
      obtain⟨f0,f5⟩:=F.out wx a;go_simp
     simp only[O.pp,O.pb,O.pc];refine O.Z 2 (J1 Au dl.length Cu) 146 rfl rfl d (fun wx a=>?_) ?_
     ·try dsimp only at a
      go_simp
     simp only[O.pp,O.pb,O.pc];refine O.Z 3 (J2 (some ⟨g,o,none⟩)) 147 rfl rfl d (fun wx a=>?_) ?_
     ·try dsimp only at a
      go_simp
     simp only[O.pp,O.pb,O.pc];refine O.Z 4 (J2 (some ⟨g,o,none⟩)) 148 rfl rfl d (fun wx a=>?_) ?_
     ·try dsimp only at a
      go_simp
     simp only[O.pp,O.pb,O.pc];refine O.Z 5 (J2 (some ⟨g,o+5,none⟩)) 149 rfl rfl d (fun wx a=>?_) ?_
     ·try dsimp only at a
      go_simp
     simp only[O.pp,O.pb,O.pc];refine O.Z 6 (J1 Ad (r.L k).done.length E) 150 rfl rfl d (fun wx a=>?_) ?_
     ·try dsimp only at a
      obtain⟨f0,f5⟩:=F.out wx a;go_simp
     simp only[O.pp,O.pb,O.pc];refine O.Z 7 (J4 #[.int .i64 1,.int .i64 r.h,.int .i64 0,.int .i64 0,J1 Au dl.length Cu,J1 Ad (r.L k).done.length E]) 151 rfl rfl d (fun wx a=>?_) ?_
     ·try dsimp only at a
      go_simp
     simp only[O.pp,O.pb,O.pc];refine wpAnyH_ready (rs:=[8]) (by kernel_rfl) (by simp) ?_
     refine AllReadyH.cons rfl (fun K s=>?_) AllReadyH.nil;go_simp
     go_at_call 52
     refine (c5.out _ (by exact d)).mono ?_
     rintro e w3⟨rfl,f4⟩;replace d:=zbt d f4;dsimp only;refine s.out _ _ d (fun d=>?_);clear s K
     try simp only[O.pp,O.pb,O.pc]
     refine O.Z 9 (.tuple #[.string es,.int .i64 E0]) 143 rfl rfl d (fun wx a=>?_) ?_
     ·try dsimp only at a
      go_simp
     simp only[O.pp,O.pb,O.pc];refine O.Z 10 (.string es) 153 rfl rfl d (fun wx a=>?_) ?_
     ·try dsimp only at a
      go_simp
     simp only[O.pp,O.pb,O.pc];refine O.Z 11 (.int .i64 E0) 154 rfl rfl d (fun wx a=>?_) ?_
     ·try dsimp only at a
      go_simp
     simp only[O.pp,O.pb,O.pc];refine O.Z 12 (.string es) 19 rfl rfl d (fun wx a=>?_) ?_
     ·try dsimp only at a
      go_simp
     simp only[O.pp,O.pb,O.pc];refine O.Z 13 (.int .i64 E0) 20 rfl rfl d (fun wx a=>?_) ?_
     ·try dsimp only at a
      go_simp
     simp only[O.pp,O.pb,O.pc];refine wpAnyH_done (by kernel_rfl) ?_ _
     exact NoPanic.normal ⟨rfl,rfl,d⟩
    intro w3 b3;have D:=J6 (zbt H2.out.2 b3);clear b3 F c5 b9 H2;simp only[Exit.then];apply_assumption
    by_cases hE:E0=0
    rotate_left
    ·have hq:Hid (z1B r k=r):=n.out.trans (if_neg hE);have f6:(E0 != 0)=true:=by simpa using hE
     clear n;go_wp2;go_roundw
     case rel=>exact⟨k+1,by omega,by go_num,by rw[U.out,hq.out];exact a9.out _ D.out⟩
     case measure=>simp[intOf];omega
    subst hE;replace n:=J6 (n.out.trans (if_pos rfl));have Y:=D.out.size;obtain⟨Ae,ne,Ce,ee⟩:=(w.out.2.1.lk k m).said.one';obtain⟨Af,nf,Cf,ef⟩:=(w.out.2.1.lk k m).due.one';have a1:=J6 (z9V (r.L k).out es (now+40) (v.l k).said (v.l k).due (fun b=>V b/\b<wr.heap.size) w3 (((w.out.2.1.lk k m).said.mono fun b hl h=>⟨h,hl⟩).over D.out) (((w.out.2.1.lk k m).due.mono fun b hl h=>⟨h,hl⟩).over D.out));rw[ee,ef]at a1;have C3:=w.out.1.over D.out;have c6:=(C3.lk m).facts;rw[<- HO.out,ee,ef]at c6;obtain⟨-,-,-,-,-,-,g6,f7,g8,g9⟩:=c6;have O9:IntKind.i64.wrap (now+40)=now+40:=z5V (by omega) (by omega)
    generalize Ln.z5z (r.L k).out es (now+40)=x at *;generalize Ln.z4M (r.L k).out (now+40)=E1 at *;generalize (r.L k).out.g=gg at *;generalize (r.L k).out.cl=gc at *;have f8:=J6 Y;have f9:=C3.lt;clear C3 Y
    go_upto_region 36 with (go_at_call 53;refine a1.out.mono ?_;rintro e wb⟨u1,u2,rfl,U1,U3,a2⟩;obtain⟨A1,G,H,rfl⟩:=U1.one';obtain⟨A2,M,N,rfl⟩:=U3.one';obtain⟨wS,sA,c7⟩:=z8S (P:=V) f8.out (Nat.le_refl _) U1 U3 a2;unfold Z4 at sA;have y:=J6 c7;have a3:g≠wb.heap.size:=Nat.ne_of_lt (Nat.lt_of_lt_of_le f9 a2.size);clear c7 U1 U3 a2 g6 f7 g8 g9;dsimp only)
    generalize wb.heap.size=g7 at *;have A:=J6 (zbt D.out y.out.bel)
    by_cases a6:E1=0
    rotate_left
    ·have hq:Hid (z1B r k=r):=n.out.trans (if_neg a6);have f6:(E1 != 0)=true:=by simpa using a6
     clear n;go_wp2;go_roundw
     case rel=>exact⟨k+1,by omega,by go_num,by rw[U.out,hq.out];exact a9.out _ A.out⟩
     case measure=>simp[intOf];omega
    subst a6;replace n:=J6 (n.out.trans (if_pos rfl))
    have c8:Hid (∀ b,New V wr 0 b->New P w1 0 b):=fun b h=>by
     rcases h with⟨h,_⟩ | h
     ·exact w.out.2.2.1 b h
     ·exact .inr (by have:=w.out.2.2.2.2.size;omega)
    have B:g≠g7:=a3;have N1:66<=o:=by have:=HO.out;omega
    have R:Hid (∀ wx,Bl wS wx->LnK g g7 (J1 A1 G H) (J1 A2 M N) (.int .i64 x.g) (J3 x.cl) (J1 As ns Cs) wx):=fun wx q=>by
     have X:=y.out.cat.over q;have C:=(w.out.1.over A.out).over q;exact⟨X.cell 0,X.cell 1,X.cell 2,X.cell 3,by rw[<- HE.out.2.1];exact C.cell 65⟩
    have a7:Hid (∀ wx,Bl wS wx->Rep V wx (J1 As ns Cs) 2 16 (pwC r.set)):=fun wx q=>by
     have:=(w.out.2.1.set.over A.out).over q;rw[HE.out.2.1]at this;exact this
    have c9:=J6 (fun (wx:World) (q:Bl wS wx)=>(a7.out wx q).src);have d0:=J6 (fun (wx:World) (AT:Option Addr) (CT:Nat) (w8:World) (q:Bl wS wx) (T:Cd.z1Z wx As ns 2 AT CT w8)=>Rep.copied (a7.out wx q) (by decide) T (fun _ _=>rfl))
    go_upto_region 37 with fail
    apply z7z (fun AT CT w'=>TQu P w1 g (z1B r k) w')
    ·refine wp_region_noPanic ?_;have f:Bl wS wS.drew:=(Below.refl _ _).drew;refine wp_region_held_drew (S:=LnK g g7 (J1 A1 G H) (J1 A2 M N) (.int .i64 x.g) (J3 x.cl) (J1 As ns Cs)) (by kernel_rfl) (R.out _ f) (fun d=>?_)
     refine O.Z 0 (J2 (some ⟨g,o,none⟩)) 170 rfl rfl d (fun wx a=>?_) ?_
     ·try dsimp only at a
      go_simp
     simp only[O.pp,O.pb,O.pc];refine O.Z 1 (J2 (some ⟨g,o,none⟩)) 171 rfl rfl d (fun wx a=>?_) ?_
     ·try dsimp only at a
      go_simp
     simp only[O.pp,O.pb,O.pc];refine O.Z 2 (J2 (some ⟨g,o,none⟩)) 172 rfl rfl d (fun wx a=>?_) ?_
     ·try dsimp only at a
      go_simp
     simp only[O.pp,O.pb,O.pc];refine O.Z 3 (J2 (some ⟨g,o,none⟩)) 173 rfl rfl d (fun wx a=>?_) ?_
     ·try dsimp only at a
      go_simp
     simp only[O.pp,O.pb,O.pc];refine O.Z 4 (J4 #[J1 A1 G H,J1 A2 M N,.int .i64 x.g,J3 x.cl]) 174 rfl rfl d (fun wx a=>?_) ?_
     ·try dsimp only at a
      obtain⟨l0,l1,l2,l3,l65⟩:=a;go_simp
     simp only[O.pp,O.pb,O.pc];refine O.Z 5 (J2 (some ⟨g,65,none⟩)) 175 rfl rfl d (fun wx a=>?_) ?_
     ·try dsimp only at a
      go_simp
     simp only[O.pp,O.pb,O.pc];refine O.Z 6 (J1 As ns Cs) 176 rfl rfl d (fun wx a=>?_) ?_
     ·try dsimp only at a
      obtain⟨l0,l1,l2,l3,l65⟩:=a;go_simp
     simp only[O.pp,O.pb,O.pc];refine wpAnyH_ready (rs:=[7]) (by kernel_rfl) (by simp) ?_
     refine AllReadyH.cons rfl (fun K s=>?_) AllReadyH.nil;refine Cd.z3U rfl rfl _ _ rfl As ns Cs rfl rfl (c9.out _ (by exact f)) ?_
     intro AT CT w8 T;have T8:=d0.out _ _ _ _ (by exact f) T
     replace f:=zbt f T.below;clear T;refine s.out _ _ (R.out _ f) (fun d=>?_);clear s K;simp only[Act.put,List.setIfInBounds_toArray];refine O.Z 8 (J2 (some ⟨g,o,none⟩)) 178 rfl rfl d (fun wx a=>?_) ?_
     ·try dsimp only at a
      go_simp
     simp only[Act.put];refine O.Z 9 (J2 (some ⟨g,o+6,none⟩)) 179 rfl rfl d (fun wx a=>?_) ?_
     ·try dsimp only at a
      go_simp
     simp only[Act.put];have C8:=(w.out.1.over A.out).over f;have P8:=(w.out.2.1.z2w A.out 0).over f;have A8:=(w.out.2.2.2.2.trans (Alt.of A.out)).trans (Alt.of f);have d1:=(y.out.r1.mono (P':=New V wr 0) fun b _ h=>h.1).over f;have d2:=(y.out.r2.mono (P':=New V wr 0) fun b _ h=>h.1).over f;have d3:=T8.mono (P':=New V wr 0) fun b _ h=>.inr (by have:=A.out.size;have e9:wS.drew.heap.size=wS.heap.size:=rfl;omega)
     have g0:=J6 (q2o (P:=P) m HO.out C8 P8 (z1t w.out.2.2.2.1 d5) c8.out A8 (x:=x) d1 d2 d3)
     have sN:(z5E (J2 (some ⟨g,o+6,none⟩)) (J4 #[J1 A1 G H,J1 A2 M N,.int .i64 x.g,J3 x.cl])).run prog w8=.ok () (w8.setCells g (o+6) [J1 A1 G H,J1 A2 M N,.int .i64 x.g,J3 x.cl]):=
      run_storeAt_mid (P:=prog) w8 g (o+6) 37 #[J1 A1 G H,J1 A2 M N,.int .i64 x.g,J3 x.cl] (C8.there (o+6) 4 (by rw[z0c,HO.out];omega)) (by rw[z7q];rfl) (by simp[Value.oneCell'])
     have CL:CAt 47 (w8.setCells g (o+6) [J1 A1 G H,J1 A2 M N,.int .i64 x.g,J3 x.cl]) g (((((prC r v).setIfInBounds (o+6) (J1 A1 G H)).setIfInBounds (o+7) (J1 A2 M N)).setIfInBounds (o+8) (.int .i64 x.g)).setIfInBounds (o+9) (J3 x.cl)):=(((C8.set (o+6) _).set (o+7) _).set (o+8) _).set (o+9) _
     have hl:∀ j,j<6->∀ z,(lkL (r.L k) (v.l k))[j]?=some z->(w8.setCells g (o+6) [J1 A1 G H,J1 A2 M N,.int .i64 x.g,J3 x.cl]).cell? ⟨g,o+j,none⟩=some z:=fun j hj z hz=>by
      rw[CL.cell (o+j)];simp only[Array.getElem?_setIfInBounds];rw[if_neg (by omega),if_neg (by omega),if_neg (by omega),if_neg (by omega),HO.out,z2E k m j (by omega),hz]
     have q3:=hl 3 (by omega) _ rfl
     have q4:=hl 4 (by omega) _ rfl
     have q5:=hl 5 (by omega) _ rfl
     rw[HE.out.1]at q3;rw[HE.out.2.2]at q5;have z3:=CL.free (o+3);have z4:=CL.free (o+4);have z5:=CL.free (o+5);have P0:=CL.lt;clear C8 P8 A8 d1 d2 d3 T8 hl CL;have a8:=d.sets B (o:=o+6) (by omega) [J1 A1 G H,J1 A2 M N,.int .i64 x.g,J3 x.cl]
     refine O.z1p (i:=10) (by kernel_rfl) rfl rfl (fun K s=>?_)
     go_simp;refine s _ _ a8 ?_;clear s K sN d;have d:=a8;clear a8;generalize w8.setCells g (o+6) [J1 A1 G H,J1 A2 M N,.int .i64 x.g,J3 x.cl]=wL at *;refine O.Z 11 (J2 (some ⟨g,o,none⟩)) 180 rfl rfl d (fun wx a=>?_) ?_
     ·try dsimp only at a
      go_simp
     simp only[O.pp,O.pb,O.pc];refine O.Z 12 (J2 (some ⟨g,o+3,none⟩)) 181 rfl rfl d (fun wx a=>?_) ?_
     ·try dsimp only at a
      go_simp
     simp only[O.pp,O.pb,O.pc];refine O.z1p (i:=13) (by kernel_rfl) rfl rfl (fun K s=>?_)
     go_simp;replace d:=d.put B (o:=o+3) (by omega) (J1 AT ns CT)
     refine s _ _ d ?_;clear s K;refine O.Z 14 (J2 (some ⟨g,o,none⟩)) 182 rfl rfl d (fun wx a=>?_) ?_
     ·try dsimp only at a
      go_simp
     simp only[O.pp,O.pb,O.pc];refine O.Z 15 (J2 (some ⟨g,o+4,none⟩)) 183 rfl rfl d (fun wx a=>?_) ?_
     ·try dsimp only at a
      go_simp
     simp only[O.pp,O.pb,O.pc];refine O.z1p (i:=16) (by kernel_rfl) rfl rfl (fun K s=>?_)
     go_simp;replace d:=d.put B (o:=o+4) (by omega) (J3 false)
     refine s _ _ d ?_;clear s K;refine O.Z 17 (J2 (some ⟨g,o,none⟩)) 184 rfl rfl d (fun wx a=>?_) ?_
     ·try dsimp only at a
      go_simp
     simp only[O.pp,O.pb,O.pc];refine O.Z 18 (J2 (some ⟨g,o+5,none⟩)) 185 rfl rfl d (fun wx a=>?_) ?_
     ·try dsimp only at a
      go_simp
     simp only[O.pp,O.pb,O.pc];refine O.z1p (i:=19) (by kernel_rfl) rfl rfl (fun K s=>?_)
     go_simp;replace d:=d.put B (o:=o+5) (by omega) (J1 none 0 0)
     refine s _ _ d ?_;clear s K;refine wpAnyH_done (by kernel_rfl) ?_ _
     exact NoPanic.normal ⟨AT,CT,rfl,rfl,by rw[n.out];exact g0.out⟩
    intro AT CT w9 hT;have g1:=J6 hT;clear hT R a7 c9 d0 c8 y a1
    try simp only[Exit.then]
    try apply_assumption
    try go_wp2
    go_roundw
    case rel=>exact⟨k+1,by omega,by go_num,by rw[U.out];exact g1.out⟩
    case measure=>simp[intOf];omega
  ·have c4:Hid (z3n r (r.L k)=false):=by rw[Hid,W.out,b4];simp[hsum]
   have O7:((dl.length:Int)+((r.L k).done.length:Int) == 0)=false:=by simpa using hsum
   go_upto_region 33 with fail
   have n:=J6 (HD.out.trans (if_neg (by rw[c4.out];simp)))
   have F:Hid (∀ wx,Bl w2 wx->wx.cell? ⟨g,0,none⟩=some (.int .i64 r.h)/\wx.cell? ⟨g,o+5,none⟩=some (J1 Ad (r.L k).done.length E)):=fun wx q=>by
    obtain⟨b0,-,-,b5⟩:=b9.out wx q;exact⟨b0,b5⟩
   have c5:Hid (∀ wx,Bl w2 wx->Calls prog 52 #[J4 #[.int .i64 1,.int .i64 r.h,.int .i64 0,.int .i64 0,J1 Au dl.length Cu,J1 Ad (r.L k).done.length E]] wx fun e w'=>e=.returned (.tuple #[.string (Cd.encS 1 r.h 0 0 dl (r.L k).done),.int .i64 (Cd.z0o 1 r.h 0 0 dl (r.L k).done)])/\Bl wx w'):=fun wx q=>by
    have q2:=(((w.out.2.1.lk k m).done.over H2.out.2).over q).mono (P':=fun _=>True) fun _ _ _=>trivial;rw[HE.out.2.2]at q2;have q1:=(H2.out.1.over q).mono (P':=fun _=>True) fun _ _ _=>trivial;obtain⟨A1,C1,A2,C2,sb,so,db,dO,z1,z2,hL⟩:=Rep.lies q1 q2;cases z1;cases z2;exact Cd.q6x 1 r.h 0 0 dl (r.L k).done Au Ad Cu E sb so db dO wx hL
   generalize Cd.encS 1 r.h 0 0 dl (r.L k).done=es at *;generalize Cd.z0o 1 r.h 0 0 dl (r.L k).done=E0 at *;clear HD W c4 a0 a4 a5 N0;apply z2d (fun w'=>Bl w2 w')
   ·refine wp_region_noPanic ?_;refine wp_region_held_drew (S:=fun wx=>Bl w2 wx) (by kernel_rfl) (Below.refl _ _).drew (fun d=>?_)
    refine O.Z 0 (J2 (some ⟨g,0,none⟩)) 144 rfl rfl d (fun wx a=>?_) ?_
    ·try dsimp only at a
     go_simp
    simp only[O.pp,O.pb,O.pc];refine O.Z 1 (.int .i64 r.h) 145 rfl rfl d (fun wx a=>?_) ?_
    ·try dsimp only at a
     obtain⟨f0,f5⟩:=F.out wx a;go_simp
    simp only[O.pp,O.pb,O.pc];refine O.Z 2 (J1 Au dl.length Cu) 146 rfl rfl d (fun wx a=>?_) ?_
    ·try dsimp only at a
     go_simp
    simp only[O.pp,O.pb,O.pc];refine O.Z 3 (J2 (some ⟨g,o,none⟩)) 147 rfl rfl d (fun wx a=>?_) ?_
    ·try dsimp only at a
     go_simp
    simp only[O.pp,O.pb,O.pc];refine O.Z 4 (J2 (some ⟨g,o,none⟩)) 148 rfl rfl d (fun wx a=>?_) ?_
    ·try dsimp only at a
     go_simp
    simp only[O.pp,O.pb,O.pc];refine O.Z 5 (J2 (some ⟨g,o+5,none⟩)) 149 rfl rfl d (fun wx a=>?_) ?_
    ·try dsimp only at a
     go_simp
    simp only[O.pp,O.pb,O.pc];refine O.Z 6 (J1 Ad (r.L k).done.length E) 150 rfl rfl d (fun wx a=>?_) ?_
    ·try dsimp only at a
     obtain⟨f0,f5⟩:=F.out wx a;go_simp
    simp only[O.pp,O.pb,O.pc];refine O.Z 7 (J4 #[.int .i64 1,.int .i64 r.h,.int .i64 0,.int .i64 0,J1 Au dl.length Cu,J1 Ad (r.L k).done.length E]) 151 rfl rfl d (fun wx a=>?_) ?_
    ·try dsimp only at a
     go_simp
    simp only[O.pp,O.pb,O.pc];refine wpAnyH_ready (rs:=[8]) (by kernel_rfl) (by simp) ?_
    refine AllReadyH.cons rfl (fun K s=>?_) AllReadyH.nil;go_simp
    go_at_call 52
    refine (c5.out _ (by exact d)).mono ?_
    rintro e w3⟨rfl,f4⟩;replace d:=zbt d f4;dsimp only;refine s.out _ _ d (fun d=>?_);clear s K
    try simp only[O.pp,O.pb,O.pc]
    refine O.Z 9 (.tuple #[.string es,.int .i64 E0]) 143 rfl rfl d (fun wx a=>?_) ?_
    ·try dsimp only at a
     go_simp
    simp only[O.pp,O.pb,O.pc];refine O.Z 10 (.string es) 153 rfl rfl d (fun wx a=>?_) ?_
    ·try dsimp only at a
     go_simp
    simp only[O.pp,O.pb,O.pc];refine O.Z 11 (.int .i64 E0) 154 rfl rfl d (fun wx a=>?_) ?_
    ·try dsimp only at a
     go_simp
    simp only[O.pp,O.pb,O.pc];refine O.Z 12 (.string es) 19 rfl rfl d (fun wx a=>?_) ?_
    ·try dsimp only at a
     go_simp
    simp only[O.pp,O.pb,O.pc];refine O.Z 13 (.int .i64 E0) 20 rfl rfl d (fun wx a=>?_) ?_
    ·try dsimp only at a
     go_simp
    simp only[O.pp,O.pb,O.pc];refine wpAnyH_done (by kernel_rfl) ?_ _
    exact NoPanic.normal ⟨rfl,rfl,d⟩
   intro w3 b3;have D:=J6 (zbt H2.out.2 b3);clear b3 F c5 b9 H2;simp only[Exit.then];apply_assumption
   by_cases hE:E0=0
   rotate_left
   ·have hq:Hid (z1B r k=r):=n.out.trans (if_neg hE);have f6:(E0 != 0)=true:=by simpa using hE
    clear n;go_wp2;go_roundw
    case rel=>exact⟨k+1,by omega,by go_num,by rw[U.out,hq.out];exact a9.out _ D.out⟩
    case measure=>simp[intOf];omega
   subst hE;replace n:=J6 (n.out.trans (if_pos rfl));have Y:=D.out.size;obtain⟨Ae,ne,Ce,ee⟩:=(w.out.2.1.lk k m).said.one';obtain⟨Af,nf,Cf,ef⟩:=(w.out.2.1.lk k m).due.one';have a1:=J6 (z9V (r.L k).out es (now+40) (v.l k).said (v.l k).due (fun b=>V b/\b<wr.heap.size) w3 (((w.out.2.1.lk k m).said.mono fun b hl h=>⟨h,hl⟩).over D.out) (((w.out.2.1.lk k m).due.mono fun b hl h=>⟨h,hl⟩).over D.out));rw[ee,ef]at a1;have C3:=w.out.1.over D.out;have c6:=(C3.lk m).facts;rw[<- HO.out,ee,ef]at c6;obtain⟨-,-,-,-,-,-,g6,f7,g8,g9⟩:=c6;have O9:IntKind.i64.wrap (now+40)=now+40:=z5V (by omega) (by omega)
   generalize Ln.z5z (r.L k).out es (now+40)=x at *;generalize Ln.z4M (r.L k).out (now+40)=E1 at *;generalize (r.L k).out.g=gg at *;generalize (r.L k).out.cl=gc at *;have f8:=J6 Y;have f9:=C3.lt;clear C3 Y
   go_upto_region 36 with (go_at_call 53;refine a1.out.mono ?_;rintro e wb⟨u1,u2,rfl,U1,U3,a2⟩;obtain⟨A1,G,H,rfl⟩:=U1.one';obtain⟨A2,M,N,rfl⟩:=U3.one';obtain⟨wS,sA,c7⟩:=z8S (P:=V) f8.out (Nat.le_refl _) U1 U3 a2;unfold Z4 at sA;have y:=J6 c7;have a3:g≠wb.heap.size:=Nat.ne_of_lt (Nat.lt_of_lt_of_le f9 a2.size);clear c7 U1 U3 a2 g6 f7 g8 g9;dsimp only)
   generalize wb.heap.size=g7 at *;have A:=J6 (zbt D.out y.out.bel)
   by_cases a6:E1=0
   rotate_left
   ·have hq:Hid (z1B r k=r):=n.out.trans (if_neg a6);have f6:(E1 != 0)=true:=by simpa using a6
    clear n;go_wp2;go_roundw
    case rel=>exact⟨k+1,by omega,by go_num,by rw[U.out,hq.out];exact a9.out _ A.out⟩
    case measure=>simp[intOf];omega
   subst a6;replace n:=J6 (n.out.trans (if_pos rfl))
   have c8:Hid (∀ b,New V wr 0 b->New P w1 0 b):=fun b h=>by
    rcases h with⟨h,_⟩ | h
    ·exact w.out.2.2.1 b h
    ·exact .inr (by have:=w.out.2.2.2.2.size;omega)
   have B:g≠g7:=a3;have N1:66<=o:=by have:=HO.out;omega
   have R:Hid (∀ wx,Bl wS wx->LnK g g7 (J1 A1 G H) (J1 A2 M N) (.int .i64 x.g) (J3 x.cl) (J1 As ns Cs) wx):=fun wx q=>by
    have X:=y.out.cat.over q;have C:=(w.out.1.over A.out).over q;exact⟨X.cell 0,X.cell 1,X.cell 2,X.cell 3,by rw[<- HE.out.2.1];exact C.cell 65⟩
   have a7:Hid (∀ wx,Bl wS wx->Rep V wx (J1 As ns Cs) 2 16 (pwC r.set)):=fun wx q=>by
    have:=(w.out.2.1.set.over A.out).over q;rw[HE.out.2.1]at this;exact this
   have c9:=J6 (fun (wx:World) (q:Bl wS wx)=>(a7.out wx q).src);have d0:=J6 (fun (wx:World) (AT:Option Addr) (CT:Nat) (w8:World) (q:Bl wS wx) (T:Cd.z1Z wx As ns 2 AT CT w8)=>Rep.copied (a7.out wx q) (by decide) T (fun _ _=>rfl))
   go_upto_region 37 with fail
   apply z7z (fun AT CT w'=>TQu P w1 g (z1B r k) w')
   ·refine wp_region_noPanic ?_;have f:Bl wS wS.drew:=(Below.refl _ _).drew;refine wp_region_held_drew (S:=LnK g g7 (J1 A1 G H) (J1 A2 M N) (.int .i64 x.g) (J3 x.cl) (J1 As ns Cs)) (by kernel_rfl) (R.out _ f) (fun d=>?_)
    refine O.Z 0 (J2 (some ⟨g,o,none⟩)) 170 rfl rfl d (fun wx a=>?_) ?_
    ·try dsimp only at a
     go_simp
    simp only[O.pp,O.pb,O.pc];refine O.Z 1 (J2 (some ⟨g,o,none⟩)) 171 rfl rfl d (fun wx a=>?_) ?_
    ·try dsimp only at a
     go_simp
    simp only[O.pp,O.pb,O.pc];refine O.Z 2 (J2 (some ⟨g,o,none⟩)) 172 rfl rfl d (fun wx a=>?_) ?_
    ·try dsimp only at a
     go_simp
    simp only[O.pp,O.pb,O.pc];refine O.Z 3 (J2 (some ⟨g,o,none⟩)) 173 rfl rfl d (fun wx a=>?_) ?_
    ·try dsimp only at a
     go_simp
    simp only[O.pp,O.pb,O.pc];refine O.Z 4 (J4 #[J1 A1 G H,J1 A2 M N,.int .i64 x.g,J3 x.cl]) 174 rfl rfl d (fun wx a=>?_) ?_
    ·try dsimp only at a
     obtain⟨l0,l1,l2,l3,l65⟩:=a;go_simp
    simp only[O.pp,O.pb,O.pc];refine O.Z 5 (J2 (some ⟨g,65,none⟩)) 175 rfl rfl d (fun wx a=>?_) ?_
    ·try dsimp only at a
     go_simp
    simp only[O.pp,O.pb,O.pc];refine O.Z 6 (J1 As ns Cs) 176 rfl rfl d (fun wx a=>?_) ?_
    ·try dsimp only at a
     obtain⟨l0,l1,l2,l3,l65⟩:=a;go_simp
    simp only[O.pp,O.pb,O.pc];refine wpAnyH_ready (rs:=[7]) (by kernel_rfl) (by simp) ?_
    refine AllReadyH.cons rfl (fun K s=>?_) AllReadyH.nil;refine Cd.z3U rfl rfl _ _ rfl As ns Cs rfl rfl (c9.out _ (by exact f)) ?_
    intro AT CT w8 T;have T8:=d0.out _ _ _ _ (by exact f) T
    replace f:=zbt f T.below;clear T;refine s.out _ _ (R.out _ f) (fun d=>?_);clear s K;simp only[Act.put,List.setIfInBounds_toArray];refine O.Z 8 (J2 (some ⟨g,o,none⟩)) 178 rfl rfl d (fun wx a=>?_) ?_
    ·try dsimp only at a
     go_simp
    simp only[Act.put];refine O.Z 9 (J2 (some ⟨g,o+6,none⟩)) 179 rfl rfl d (fun wx a=>?_) ?_
    ·try dsimp only at a
     go_simp
    simp only[Act.put];have C8:=(w.out.1.over A.out).over f;have P8:=(w.out.2.1.z2w A.out 0).over f;have A8:=(w.out.2.2.2.2.trans (Alt.of A.out)).trans (Alt.of f);have d1:=(y.out.r1.mono (P':=New V wr 0) fun b _ h=>h.1).over f;have d2:=(y.out.r2.mono (P':=New V wr 0) fun b _ h=>h.1).over f;have d3:=T8.mono (P':=New V wr 0) fun b _ h=>.inr (by have:=A.out.size;have e9:wS.drew.heap.size=wS.heap.size:=rfl;omega)
    have g0:=J6 (q2o (P:=P) m HO.out C8 P8 (z1t w.out.2.2.2.1 d5) c8.out A8 (x:=x) d1 d2 d3)
    have sN:(z5E (J2 (some ⟨g,o+6,none⟩)) (J4 #[J1 A1 G H,J1 A2 M N,.int .i64 x.g,J3 x.cl])).run prog w8=.ok () (w8.setCells g (o+6) [J1 A1 G H,J1 A2 M N,.int .i64 x.g,J3 x.cl]):=
     run_storeAt_mid (P:=prog) w8 g (o+6) 37 #[J1 A1 G H,J1 A2 M N,.int .i64 x.g,J3 x.cl] (C8.there (o+6) 4 (by rw[z0c,HO.out];omega)) (by rw[z7q];rfl) (by simp[Value.oneCell'])
    have CL:CAt 47 (w8.setCells g (o+6) [J1 A1 G H,J1 A2 M N,.int .i64 x.g,J3 x.cl]) g (((((prC r v).setIfInBounds (o+6) (J1 A1 G H)).setIfInBounds (o+7) (J1 A2 M N)).setIfInBounds (o+8) (.int .i64 x.g)).setIfInBounds (o+9) (J3 x.cl)):=(((C8.set (o+6) _).set (o+7) _).set (o+8) _).set (o+9) _
    have hl:∀ j,j<6->∀ z,(lkL (r.L k) (v.l k))[j]?=some z->(w8.setCells g (o+6) [J1 A1 G H,J1 A2 M N,.int .i64 x.g,J3 x.cl]).cell? ⟨g,o+j,none⟩=some z:=fun j hj z hz=>by
     rw[CL.cell (o+j)];simp only[Array.getElem?_setIfInBounds];rw[if_neg (by omega),if_neg (by omega),if_neg (by omega),if_neg (by omega),HO.out,z2E k m j (by omega),hz]
    have q3:=hl 3 (by omega) _ rfl
    have q4:=hl 4 (by omega) _ rfl
    have q5:=hl 5 (by omega) _ rfl
    rw[HE.out.1]at q3;rw[HE.out.2.2]at q5;have z3:=CL.free (o+3);have z4:=CL.free (o+4);have z5:=CL.free (o+5);have P0:=CL.lt;clear C8 P8 A8 d1 d2 d3 T8 hl CL;have a8:=d.sets B (o:=o+6) (by omega) [J1 A1 G H,J1 A2 M N,.int .i64 x.g,J3 x.cl]
    refine O.z1p (i:=10) (by kernel_rfl) rfl rfl (fun K s=>?_)
    go_simp;refine s _ _ a8 ?_;clear s K sN d;have d:=a8;clear a8;generalize w8.setCells g (o+6) [J1 A1 G H,J1 A2 M N,.int .i64 x.g,J3 x.cl]=wL at *;refine O.Z 11 (J2 (some ⟨g,o,none⟩)) 180 rfl rfl d (fun wx a=>?_) ?_
    ·try dsimp only at a
     go_simp
    simp only[O.pp,O.pb,O.pc];refine O.Z 12 (J2 (some ⟨g,o+3,none⟩)) 181 rfl rfl d (fun wx a=>?_) ?_
    ·try dsimp only at a
     go_simp
    simp only[O.pp,O.pb,O.pc];refine O.z1p (i:=13) (by kernel_rfl) rfl rfl (fun K s=>?_)
    go_simp;replace d:=d.put B (o:=o+3) (by omega) (J1 AT ns CT)
    refine s _ _ d ?_;clear s K;refine O.Z 14 (J2 (some ⟨g,o,none⟩)) 182 rfl rfl d (fun wx a=>?_) ?_
    ·try dsimp only at a
     go_simp
    simp only[O.pp,O.pb,O.pc];refine O.Z 15 (J2 (some ⟨g,o+4,none⟩)) 183 rfl rfl d (fun wx a=>?_) ?_
    ·try dsimp only at a
     go_simp
    simp only[O.pp,O.pb,O.pc];refine O.z1p (i:=16) (by kernel_rfl) rfl rfl (fun K s=>?_)
    go_simp;replace d:=d.put B (o:=o+4) (by omega) (J3 false)
    refine s _ _ d ?_;clear s K;refine O.Z 17 (J2 (some ⟨g,o,none⟩)) 184 rfl rfl d (fun wx a=>?_) ?_
    ·try dsimp only at a
     go_simp
    simp only[O.pp,O.pb,O.pc];refine O.Z 18 (J2 (some ⟨g,o+5,none⟩)) 185 rfl rfl d (fun wx a=>?_) ?_
    ·try dsimp only at a
     go_simp
    simp only[O.pp,O.pb,O.pc];refine O.z1p (i:=19) (by kernel_rfl) rfl rfl (fun K s=>?_)
    go_simp;replace d:=d.put B (o:=o+5) (by omega) (J1 none 0 0)
    refine s _ _ d ?_;clear s K;refine wpAnyH_done (by kernel_rfl) ?_ _
    exact NoPanic.normal ⟨AT,CT,rfl,rfl,by rw[n.out];exact g0.out⟩
   intro AT CT w9 hT;have g1:=J6 hT;clear hT R a7 c9 d0 c8 y a1
   try simp only[Exit.then]
   try apply_assumption
   try go_wp2
   go_roundw
   case rel=>exact⟨k+1,by omega,by go_num,by rw[U.out];exact g1.out⟩
   case measure=>simp[intOf];omega
end Pv
namespace Pv
open Go.RowKit
def q6U(v:Value):Sem Value:=Instr.loadAt 27 v
theorem q3m(v:Value):Instr.loadAt 27 v=q6U v:=rfl
theorem q2d{w:World}{b:Nat}{s:St}{a:Value}(h:SAt w b (stC s a)):(q6U (J2 (some ⟨b,7,none⟩))).run prog w=.ok (J4 (vsC s.V)) w:=by
 have:=run_loadAt_mid (P:=prog) w b 7 27 (vsC s.V).toList _ (z5J h) underlying27 rfl (by kernel_rfl)
 change (Instr.loadAt 27 _).run prog w=_
 simpa using this
theorem j1o(V:Nat->Vd)(w:World):(Instr.index 27 (J4 (vsC V)) (J I 0)).run prog w=.ok (J4 (vdC (V 0))) w:=by kernel_rfl
theorem j1b(V:Nat->Vd)(w:World):(Instr.index 27 (J4 (vsC V)) (J I 1)).run prog w=.ok (J4 (vdC (V 1))) w:=by kernel_rfl
theorem j1D(V:Nat->Vd)(w:World):(Instr.index 27 (J4 (vsC V)) (J I 2)).run prog w=.ok (J4 (vdC (V 2))) w:=by kernel_rfl
theorem j1E(V:Nat->Vd)(w:World):(Instr.index 27 (J4 (vsC V)) (J I 3)).run prog w=.ok (J4 (vdC (V 3))) w:=by kernel_rfl
theorem j1l(V:Nat->Vd)(w:World):(Instr.index 27 (J4 (vsC V)) (J I 4)).run prog w=.ok (J4 (vdC (V 4))) w:=by kernel_rfl
theorem j1x(V:Nat->Vd)(w:World):(Instr.index 27 (J4 (vsC V)) (J I 5)).run prog w=.ok (J4 (vdC (V 5))) w:=by kernel_rfl
theorem ixV(V:Nat->Vd){k:Nat}(a:k<6)(w:World):(Instr.index 27 (J4 (vsC V)) (J I (k:Int))).run prog w=.ok (J4 #[J I (V k).tok,J I (V k).sh,J I (V k).lost,J3 (V k).jail,J3 (V k).dead]) w:=by
 rcases (show k=0∨k=1∨k=2∨k=3∨k=4∨k=5 by omega) with rfl | rfl | rfl | rfl | rfl | rfl
 ·exact j1o V w
 ·exact j1b V w
 ·exact j1D V w
 ·exact j1E V w
 ·exact j1l V w
 ·exact j1x V w
def pN(n:Nat->Int)(k:Nat):Nat->Int:=fun i=>if i<k then n i else 0
theorem q8B(n:Nat->Int){k:Nat}(a:k<6):Df.z7v (pN n k) ((k:Int),n k)=pN n (k+1):=by
 funext i
 rw[Df.z2A a];unfold pN
 by_cases e:i=k
 ·subst e;rw[if_pos rfl,if_pos (by omega)]
 ·rw[if_neg e]
  by_cases h:i<k
  ·rw[if_pos h,if_pos (by omega)]
  ·rw[if_neg h,if_neg (by omega)]
theorem q8h(n:Nat->Int){k:Nat}(h0:n k=0):pN n k=pN n (k+1):=by
 funext i
 unfold pN
 by_cases h:i<k
 ·rw[if_pos h,if_pos (by omega)]
 ·rw[if_neg h]
  by_cases e:i=k
  ·subst e;rw[if_pos (by omega),h0]
  ·rw[if_neg (by omega)]
attribute [local go_sem ↓] q3m
theorem q4N(s:St)(u:Value)(w:World)(K:∀ k,k<6->0<=(s.V k).tok/\(s.V k).tok<=1125899906842624) :
  Calls prog 50 #[J4 (stC s u)] w fun e w'=>∃ v,e=.returned v/\Rep (fun b=>w.heap.size<=b) w' v 2 16 (pwC (z4Y s.V))/\Bl w w':=by
 obtain⟨i0,hi,N,P,Q⟩:=info_parts z9H;rw[<- q6d (fun k t=>(K k t).1) (fun k t=>(K k t).2)];have HN:Hid (∀ k,nP s.V k=if (s.V k).jail=true then 0 else (s.V k).tok / 100):=fun k=>rfl;have HT:=J6 K;have E:=J6 (fun (k:Nat) (t:k<6) (wx:World)=>ixV s.V t wx);have R:=J6 (Df.z1W (fun v=>decide (0<nP s.V v) && decide (ahN (nP s.V) v 6<4)) (nP s.V) 6);unfold q5x;generalize nP s.V=n at *;clear K
 go_enter func50,ntmps50
 go_upto_region 2 with fail
 have S0:SAt ((w.alloc (J5 (stC s u) 32)).alloc (J5 #[J I 0,J I 0,J I 0,J I 0,J I 0,J I 0] 28)) w.heap.size (stC s u):=(Below.heap_alloc _ _ _ (by simp)).trans (heap_alloc_new _ _)
 have Q0:Df.QAt ((w.alloc (J5 (stC s u) 32)).alloc (J5 #[J I 0,J I 0,J I 0,J I 0,J I 0,J I 0] 28)) (w.heap.size+1) (pN n 0):=by
  have:=Df.QAt.new (w.alloc (J5 (stC s u) 32)) (pN n 0);rw[show (w.alloc (J5 (stC s u) 32)).heap.size=w.heap.size+1 by simp]at this
  exact this
 have B0:Bl w ((w.alloc (J5 (stC s u) 32)).alloc (J5 #[J I 0,J I 0,J I 0,J I 0,J I 0,J I 0] 28)):=(znw w _).alloc (by simp) _
 generalize (w.alloc (J5 (stC s u) 32)).alloc (J5 #[J I 0,J I 0,J I 0,J I 0,J I 0,J I 0] 28)=w0 at *;have lv:=q2d S0;have H0:=J6 (show _/\_ from⟨Q0,B0⟩);clear S0 Q0 B0;generalize vsC s.V=VS at *
 go_upto_region 3 with fail
 go_loopw [12] (fun i wl=>∃ k:Nat,k<=6/\i=J I (k:Int)/\Hid (Df.QAt wl (w.heap.size+1) (pN n k)/\Bl w wl)) (fun i _=>(6 - intOf i).toNat)
 case atStart=>exact⟨0,by omega,rfl,H0.out⟩
 case round =>
  obtain⟨k,t,rfl,f⟩:=hrel
  by_cases g:k<6
  ·have S:(k:Int)<6:=by omega
   have T:(0:Int)<=(k:Int):=by omega
   have F:=fun wx=>E.out k g wx;obtain⟨t0,t1⟩:=HT.out k g;have l:=HN.out k;have a3:=f.out.1.lt;have q1:=f.out.1.one g;have f1:=f.out.1.facts.2 k;have hq:IntKind.i64.wrap ((s.V k).tok.tdiv 100)=(s.V k).tok / 100:=by rw[Int.tdiv_eq_ediv_of_nonneg t0];exact z5V (by omega) (by omega)
   have a5:=f.out.2.size;cases D:(s.V k).jail
   ·rw[D,if_neg (by simp)]at l
    have x:=(f.out.1.put g (n k)).alloc (J5 #[J I (s.V k).tok,J I (s.V k).sh,J I (s.V k).lost,J3 false,J3 (s.V k).dead] 26);rw[q8B n g,l]at x;have G:=(f.out.2.setCell (p:=⟨w.heap.size+1,k,none⟩) (by show w.heap.size<=w.heap.size+1;omega) (J I ((s.V k).tok / 100))).alloc (by simp[World.setCell];exact f.out.2.size) (J5 #[J I (s.V k).tok,J I (s.V k).sh,J I (s.V k).lost,J3 false,J3 (s.V k).dead] 26)
    have U:=J6 (show _/\_ from⟨x,G⟩);have a6:=J6 l;rw[D]at F;clear x G f l D;generalize pN n k k=z0 at *;go_wp2;exact⟨⟨k+1,by omega,by go_num,U.out⟩,by simp[intOf];omega⟩
   ·rw[D,if_pos rfl]at l;have x:=f.out.1.alloc (J5 #[J I (s.V k).tok,J I (s.V k).sh,J I (s.V k).lost,J3 true,J3 (s.V k).dead] 26);rw[q8h n l]at x;have G:=f.out.2.alloc f.out.2.size (J5 #[J I (s.V k).tok,J I (s.V k).sh,J I (s.V k).lost,J3 true,J3 (s.V k).dead] 26);have U:=J6 (show _/\_ from⟨x,G⟩);rw[D]at F;clear x G f l D;generalize pN n k k=z0 at *;go_wp2;exact⟨⟨k+1,by omega,by go_num,U.out⟩,by simp[intOf];omega⟩
  ·obtain rfl:k=6:=by omega
   have W:Df.QAt wr (w.heap.size+1) n:=f.out.1;have B3:=f.out.2;have L:=J6 (show _/\_ from⟨W,B3⟩);have z3:w.heap.size+1<wr.heap.size:=W.lt;clear W B3 f H0 E HT HN lv;obtain⟨q,rfl⟩:∃ q,q=wr:=⟨_,rfl⟩
   go_upto_region 10 with fail
   go_loopw [6,25] (fun v i wl=>∃ k:Nat,k<=6/\i=J I (k:Int)/\Hid (z3w wl q.heap.size v (Df.those (fun v=>decide (0<n v) && decide (ahN n v 6<4)) n k))/\Hid (Bl q wl)) (fun _ i _=>(6 - intOf i).toNat)
   case atStart=>exact⟨0,by omega,rfl,z3w.nil _ _,Below.refl _ _⟩
   case round =>
    obtain⟨k,t,rfl,y,X⟩:=hrel
    by_cases g:k<6
    ·have S:(k:Int)<6:=by omega
     have T:(0:Int)<=(k:Int):=by omega
     have Y:=J6 (Df.z1j (fun v=>decide (0<n v) && decide (ahN n v 6<4)) n k);have a4:=Df.z1W (fun v=>decide (0<n v) && decide (ahN n v 6<4)) n k;obtain⟨w4,rfl⟩:∃ w4,w4=wr:=⟨_,rfl⟩
     go_upto_region 14 with fail
     go_loopw [8,28] (fun a j wl=>∃ m:Nat,m<=6/\j=J I (m:Int)/\a=J I (ahN n k m:Int)/\Hid (z3w wl q.heap.size u6 (Df.those (fun v=>decide (0<n v) && decide (ahN n v 6<4)) n k)/\Bl q wl)) (fun _ j _=>(6 - intOf j).toNat)
     case atStart=>exact⟨0,by omega,rfl,rfl,y.out,X.out⟩
     case round =>
      obtain⟨m,hm,rfl,rfl,z⟩:=hrel;have d:Bl q wr:=z.out.2;have ck:wr.cell? ⟨w.heap.size+1,k,none⟩=some (J I (n k)):=(L.out.1.later d z3).one g;have hA:=q6S n k m
      by_cases Z:m<6
      ·have a7:(m:Int)<6:=by omega
       have a8:(0:Int)<=(m:Int):=by omega
       have cm:wr.cell? ⟨w.heap.size+1,m,none⟩=some (J I (n m)):=(L.out.1.later d z3).one Z;have M:Hid (ahN n k (m+1)=if n k<n m∨(n m=n k/\m<k) then ahN n k m+1 else ahN n k m):=rfl;generalize ahN n k m=A at *;generalize n m=nm at *;generalize n k=nk at *;have a0:w.heap.size+1<wr.heap.size:=by have:=d.size;omega
       have c:=J6 d;clear d
       by_cases h1:nk<nm
       ·have o:Hid (ahN n k (m+1)=A+1):=by rw[Hid,M.out,if_pos (.inl h1)]
        go_upto_region 16 with fail
        go_quiet (fail);simp only[Exit.then];apply_assumption;go_wp2;go_roundw
        case rel=>exact⟨m+1,by omega,by go_num,by rw[o.out];go_num,z.out.1,below_drewN c.out nq⟩
        case measure=>simp[intOf];omega
       ·by_cases h2:nm=nk
        ·subst h2
         by_cases h3:m<k
         ·have o:Hid (ahN n k (m+1)=A+1):=by rw[Hid,M.out,if_pos (.inr ⟨rfl,h3⟩)]
          have a1:(m:Int)<(k:Int):=by omega
          go_upto_region 16 with fail
          go_quiet (fail);simp only[Exit.then];apply_assumption;go_wp2;go_roundw
          case rel=>exact⟨m+1,by omega,by go_num,by rw[o.out];go_num,z.out.1,below_drewN c.out nq⟩
          case measure=>simp[intOf];omega
         ·have o:Hid (ahN n k (m+1)=A):=by rw[Hid,M.out,if_neg (by omega)]
          have a1:¬ (m:Int)<(k:Int):=by omega
          go_upto_region 16 with fail
          go_quiet (fail);simp only[Exit.then];apply_assumption;go_wp2;go_roundw
          case rel=>exact⟨m+1,by omega,by go_num,by rw[o.out],z.out.1,below_drewN c.out nq⟩
          case measure=>simp[intOf];omega
        ·have o:Hid (ahN n k (m+1)=A):=by rw[Hid,M.out,if_neg (by omega)]
         have a9:(nm == nk)=false:=by simpa using h2
         go_upto_region 16 with fail
         go_quiet (fail);simp only[Exit.then];apply_assumption;go_wp2;go_roundw
         case rel=>exact⟨m+1,by omega,by go_num,by rw[o.out],z.out.1,below_drewN c.out nq⟩
         case measure=>simp[intOf];omega
      ·obtain rfl:m=6:=by omega
       generalize ahN n k 6=A at *;generalize n k=nk at *;have hown:=z.out.1;have c:=J6 d;have a0:w.heap.size+1<wr.heap.size:=by have:=d.size;omega
       clear d y X z;have H:q.heap.size<=wr.heap.size:=c.out.size
       by_cases hp:0<nk
       ·by_cases h4:A<4
        ·have a2:(A:Int)<4:=by omega
         go_wp2_with (at_builtin;refine wpList_append_own_at _ rfl _ _ 33 rfl q.heap.size 74 i0 (J4 #[J I 0,J I 0]) 2 16 underlying33 hi N P Q rfl (by decide) _ _ _ rfl (World.ownsRow.alloc hown _) ⟨wr.heap.size,0,none⟩ 1 1 [J I (k:Int),J I nk] rfl rfl (z7h _ _ _ _) (by intro u hu;simp at hu;rcases hu with rfl | rfl <;> rfl) (by unfold maxLen;omega) (by omega) (by simp;omega) ?_;intro v' w1 B C _ b4)
         have hb:Bl q w1:=z3w.grow hown c.out C (Nat.le_refl _) H;go_roundw
         case rel=>have HP:Hid (z3w w1 q.heap.size v' (Df.those (fun v=>decide (0<n v) && decide (ahN n v 6<4)) n (k+1))):=(by rw[Hid,Y.out,if_pos (by simp[hp,h4])];exact z3w.append B rfl);first | exact⟨k+1,by omega,by go_num,HP,hb⟩ | ((repeat apply Exists.intro);exact⟨⟨k+1,by omega,by go_num,HP,hb⟩,rfl⟩)
         case measure=>simp[intOf];omega
        ·have a2:¬ (A:Int)<4:=by omega
         have r:=J6 hown;clear hown;go_wp2;go_roundw
         case rel=>exact⟨k+1,by omega,by go_num,by rw[Y.out,if_neg (by simp[h4])];exact r.out,c⟩
         case measure=>simp[intOf];omega
       ·have r:=J6 hown;clear hown;go_wp2;go_roundw
        case rel=>exact⟨k+1,by omega,by go_num,by rw[Y.out,if_neg (by simp[hp])];exact r.out,c⟩
        case measure=>simp[intOf];omega
    ·obtain rfl:k=6:=by omega
     go_wp2;go_ret;have h6:=R.out;exact⟨_,rfl,(Rep.j0C y.out (by omega)).mono fun b _ h=>by have:=L.out.2.size;omega,zbt L.out.2 X.out⟩
end Pv
namespace Pv
open Go.RowKit
theorem j1t(w:World)(s t u v x y z A B C a b c d e f g h i j k l m n o p q r:Value):(Instr.index 42 (J4 #[s,t,u,v,x,y,z,A,B,C,a,b,c,d,e,f,g,h,i,j,k,l,m,n,o,p,q,r]) (J I 0)).run prog w=.ok (J4 #[s,t,u,v,x,y,z,A,B,C,a,b,c,d]) w:=by kernel_rfl
theorem j1C(w:World)(s t u v x y z A B C o p q r a b c d e f g h i j k l m n:Value):(Instr.index 42 (J4 #[s,t,u,v,x,y,z,A,B,C,o,p,q,r,a,b,c,d,e,f,g,h,i,j,k,l,m,n]) (J I 1)).run prog w=.ok (J4 #[a,b,c,d,e,f,g,h,i,j,k,l,m,n]) w:=by kernel_rfl
theorem ixL(w:World)(p:Pr)(v:PrV)(k:Nat)(a:k<2):(Instr.index 42 (J4 (lkL (p.L 0) (v.l 0) ++ lkL (p.L 1) (v.l 1)).toArray) (J I (k:Int))).run prog w=.ok (J4 (lkL (p.L k) (v.l k)).toArray) w:=by
 match k,a with
 | 0,_=>exact j1t w _ _ _ _ _ _ _ _ _ _ _ _ _ _ _ _ _ _ _ _ _ _ _ _ _ _ _ _
 | 1,_=>exact j1C w _ _ _ _ _ _ _ _ _ _ _ _ _ _ _ _ _ _ _ _ _ _ _ _ _ _ _ _
theorem q7Z:(prog.info? 42).map (·.size)=some 28:=by kernel_rfl
theorem q6m{w:World}{b:Nat}{p:Pr}{v:PrV}(h:CAt 47 w b (prC p v)):w.rangeAt b 66 (lkL (p.L 0) (v.l 0) ++ lkL (p.L 1) (v.l 1)):=h.part fun j x a=>by
 have d:j<28:=(List.getElem?_eq_some_iff.1 a).1
 by_cases c:j<14
 ·rw[List.getElem?_append_left (by exact c)]at a
  have:=z2E (p:=p) (v:=v) 0 (by omega) j c
  rw[Nat.zero_mul,Nat.add_zero]at this;rw[this];exact a
 ·obtain⟨i,rfl⟩:∃ i,j=14+i:=⟨j - 14,by omega⟩
  rw[List.getElem?_append_right (by show 14<=_;omega)]at a
  have e:14+i - (lkL (p.L 0) (v.l 0)).length=i:=by show 14+i - 14=i;omega
  rw[e]at a;have:=z2E (p:=p) (v:=v) 1 (by omega) i (by omega)
  rw[show 66+1 * 14+i=66+(14+i) by omega]at this
  rw[this];exact a
attribute [local go_sem ↓] z0O
set_option maxRecDepth 1000000 in
theorem q2q(p:Pr)(v:PrV)(P:Nat->Prop)(w:World)(hp:PIn P w p v) :
  Calls prog 45 #[J4 (prC p v)] w fun e w'=>e=.returned (J3 (z1s p))/\Bl w w':=by
 have R:=J6 (z9U p);generalize z1s p=G at *;obtain⟨Aw,Cw,bw,ow,e8,Ws,-,-⟩:=hp.ws.z8v;have b9:=fun (wx:World) (T:Bl w wx)=>z4O p.s Aw bw ow Cw wx (Ws.over T);rw[<- e8]at b9;have a7:=J6 b9;have Y:=J6 hp;clear hp b9 e8 Ws;obtain⟨cs,a⟩:∃ cs,prC p v=cs:=⟨_,rfl⟩;rw[a];have e9:=J6 a;clear a
 go_enter func45,ntmps45
 go_upto_region 1 with fail
 have C1:CAt 47 (w.alloc (J5 cs 47)) w.heap.size (prC p v):=by rw[e9.out];exact CAt.new _ w cs
 have B1:Bl w (w.alloc (J5 cs 47)):=znw w _;generalize w.alloc (J5 cs 47)=w1 at *;have HX:=J6 (show _/\_ from⟨C1,B1⟩);obtain⟨⟨a0,a1,a2,a3,a4,a5⟩,a6⟩:=z0E C1;clear C1 B1 e9
 by_cases h1:z0j p.s=true/\0<=p.h/\p.h<=1099511627775/\0<=p.t/\p.t<=1099511627776/\z2h (-1) p.set=true
 ·obtain⟨q1,q2,q3,q4,q5,q6⟩:=h1;have K:=J6 (show (z0j p.s && decide (0<=p.h) && decide (p.h<=1099511627775) && decide (0<=p.t) && decide (p.t<=1099511627776) && z2h (-1) p.set)=true by simp[q1,q2,q3,q4,q5,q6])
  have o:=J6 (fun wx T=>z5p p.set v.set P wx (Y.out.set.over T));rw[q1]at a7;rw[q6]at o;clear q1 q6
  go_upto_region 3 with (first
   | (go_at_call 91;refine (a7.out _ HX.out.2).mono ?_;rintro e w2⟨rfl,C⟩;have A:=J6 (show _/\_ from⟨HX.out.1.over C,zbt HX.out.2 C⟩);clear a0 a1 a2 a3 a4 a5 a6 C;obtain⟨⟨a0,a1,a2,a3,a4,a5⟩,a6⟩:=z0E A.out.1)
   | (go_at_call 92;refine (o.out _ A.out.2).mono ?_;rintro e w3⟨rfl,U⟩;have HZ:=J6 (show _/\_ from⟨A.out.1.over U,zbt A.out.2 U⟩);clear a0 a1 a2 a3 a4 a5 a6 U))
  clear a7 o HX A
  go_upto_region 3 with fail
  apply wp_region_lit
  iterate 3 go_step
  refine wpList_load_mid rfl 42 _ rfl w.heap.size 66 rfl _ _ (q6m HZ.out.1) underlying42 rfl (by rw[q7Z];rfl) ?_
  have f4:=fun (wx:World) (k:Nat) (hk:k<2)=>ixL wx p v k hk;generalize (lkL (p.L 0) (v.l 0) ++ lkL (p.L 1) (v.l 1)).toArray=c28 at *;have a8:=J6 f4;clear f4;go_simp
  go_upto_region 4 with fail
  go_loopw [42] (fun i wl=>∃ (k:Nat),k<=2/\i=J I (k:Int)/\Hid (Bl w3 wl)/\Hid (∀ c,c<k->z1L p.h (p.L c)=true)) (fun i _=>(2 - intOf i).toNat)
  case atStart=>exact⟨0,by omega,rfl,Below.refl _ _,fun c V=>absurd V (by omega)⟩
  case round =>
   obtain⟨k,hk,rfl,E,HA⟩:=hrel
   by_cases d0:k<2
   ·have i6:(k:Int)<2:=by omega
    have h6:=fun wx=>a8.out wx k d0;have d:Bl w wr:=zbt HZ.out.2 E.out;have d1:=(Y.out.lk k d0).keep (w':=wr) fun b _ F=>d.block b F;have b7:((lkL (p.L k) (v.l k)).toArray).all (·.oneCell')=true:=by rw[Array.all_eq_true_iff_forall_mem];exact fun u hu=>z5S d1 u (by simpa using hu)
    go_upto_region 5 with fail
    apply wp_region_lit
    iterate 6 go_step
    have CZ:=CAt.new 41 wr #[J3 false,J3 false,J I 0,J1 none 0 0,J3 false,J1 none 0 0,J1 none 0 0,J1 none 0 0,J I 0,J3 false,J I 0,J I 0,J I 0,J I 0];have BZ:Bl wr (wr.alloc (J5 #[J3 false,J3 false,J I 0,J1 none 0 0,J3 false,J1 none 0 0,J1 none 0 0,J1 none 0 0,J I 0,J3 false,J I 0,J I 0,J I 0,J I 0] 41)):=znw wr _;refine wpList_store_mid rfl 41 _ _ rfl wr.heap.size 0 (lkL (p.L k) (v.l k)).toArray rfl rfl (CZ.there 0 _ (by show 0+14<=14;omega)) (by rw[z6C];rfl) b7 ?_
    have C5:=CAt.z0C (ds:=(lkL (p.L k) (v.l k)).toArray) CZ rfl;have B5:=z0b (b:=wr.heap.size) (Nat.le_refl _) ((lkL (p.L k) (v.l k)).toArray).toList 0 _ BZ;have h7:w.heap.size<wr.heap.size:=Nat.lt_of_lt_of_le HZ.out.1.lt E.out.size;generalize (wr.alloc (J5 #[J3 false,J3 false,J I 0,J1 none 0 0,J3 false,J1 none 0 0,J1 none 0 0,J1 none 0 0,J I 0,J3 false,J I 0,J I 0,J I 0,J I 0] 41)).setCells wr.heap.size 0 ((lkL (p.L k) (v.l k)).toArray).toList=w5 at *;have HL:=J6 d1;have M:=J6 (show _/\_/\_/\_ from⟨C5,(HZ.out.1.over E.out).later B5 h7,B5,zbt d B5⟩);have m:=J6 (zbt E.out B5);clear C5 CZ BZ B5 d1 b7 h6 d E;obtain⟨Ad,i7,ed,sd,-,cd,-⟩:=(HL.out.done.over M.out.2.2.1).open (z0M _) (by decide)
    obtain⟨c0,c1,c2,c3,c4,c5,⟨c6,c7,c8,c9⟩,-⟩:=z2k M.out.1;rw[ed]at c5;have a9:=J6 (fun h=>R.out.lks k d0 h);have f5:=J6 cd;have i8:(p.L k).done.length<=17592186044405:=by omega
    clear cd sd;go_simp
    go_upto_region 8 with fail
    generalize f6:p.L k=x at *;generalize v.l k=u at *;have N:=J6 f6;clear f6
    rename World=>w5
    go_loopw [5,48] (fun s5 i wl=>∃ (j:Nat) (last:Int),j<=x.done.length/\i=J I (j:Int)/\s5=J I last/\Hid (z1v (-1) x.done=z1v last (x.done.drop j))/\w5=wl) (fun _ i _=>x.done.length - (intOf i).toNat)
    case atStart=>exact⟨0,-1,Nat.zero_le _,rfl,rfl,rfl,rfl⟩
    case round =>
     obtain⟨j,last,hj,rfl,rfl,HR,h8⟩:=hrel;subst h8
     by_cases F:j<x.done.length
     ·have i9:(j:Int)<(x.done.length:Int):=by omega
      obtain⟨y,Z,hd⟩:=z5l F;obtain⟨bd,od,rfl,-,-,hcell⟩:=f5.out (by omega)
      have gy:x.done.getD j 0=y:=by simp[List.getD,Z]
      have e0:=hcell _ _ (z3f x.done j F);rw[gy]at e0;have f:=J6 (show z1v (-1) x.done=((decide (last<y) && decide (y<=5)) && z1v y (x.done.drop (j+1))) by have:=HR.out;rw[hd]at this;exact this)
      clear hcell gy Z hd HR
      by_cases q1:last<y/\y<=5
      ·obtain⟨q1,q2⟩:=q1;have f7:=J6 (show z1v (-1) x.done=z1v y (x.done.drop (j+1)) by rw[f.out];simp[q1,q2])
       clear f;go_wp2
       first | exact⟨⟨j+1,y,by omega,by go_num,rfl,f7,(by first | rfl | trivial)⟩,by simp[intOf];omega⟩ | ((repeat apply Exists.intro);exact⟨⟨j+1,y,by omega,by go_num,rfl,f7,(by first | rfl | trivial)⟩,rfl⟩)
      ·have e:G=false:=a9.out (by
        have h9:z1v (-1) x.done=false:=by
         rw[f.out];have:(decide (last<y) && decide (y<=5))=false:=by rw[Bool.eq_false_iff];intro h;simp at h;exact q1 h
         rw[this,Bool.false_and]
        simp only[z1L,h9,Bool.false_and])
       subst e;have d2:=J6 M.out.2.2.2;clear f R a9 HL M m Y HZ HA a8 K;have a:¬ last<y∨(last<y/\¬ y<=5):=by omega
       clear q1
       rcases a with q1 | ⟨q1,q2⟩
       all_goals
        go_wp2;go_ret;exact⟨rfl,d2.out⟩
     ·obtain rfl:j=x.done.length:=by omega
      have hr:z1v (-1) x.done=true:=by have:=HR.out;rw[List.drop_length]at this;exact this
      clear HR f5;have g0:=(z0E M.out.2.1).1.1;obtain⟨A1,C1,A2,C2,sb,so,db,dO,es,eu,hL,-,-⟩:=z1I.line (HL.out.said.over M.out.2.2.1) (HL.out.due.over M.out.2.2.1);have d3:=fun (wx:World) (T:Bl w5 wx)=>Ln.z0T x.out A1 A2 C1 C2 sb so db dO wx (hL.later T);rw[<- es,<- eu]at d3;have d4:=J6 d3;have o:=J6 (fun (wx:World) (T:Bl w5 wx)=>z5p x.told u.told P wx ((HL.out.told.over M.out.2.2.1).over T));have f:=J6 M.out.2.2.2;have Q:=m;clear d3 es eu hL;have d5:(!(x.on && x.gone) && decide (0<=x.base) && decide (x.base<=p.h) && z2h (-1) x.told && Ln.z1C x.out)=false->G=false:=fun h=>a9.out (by simp only[z1L,h,Bool.and_false])
      have d6:(!(x.on && x.gone) && decide (0<=x.base) && decide (x.base<=p.h) && z2h (-1) x.told && Ln.z1C x.out)=true->z1L p.h x=true:=fun h=>by simp only[z1L,hr,h,Bool.and_self]
      clear a9 hr;generalize z2h (-1) x.told=gt at *;generalize Ln.z1C x.out=gl at *;generalize x.on=xo at *;generalize x.gone=xg at *;generalize x.base=xb at *;generalize x.fresh=xf at *
      by_cases h9:(xo && xg)=false/\0<=xb/\xb<=p.h/\gt=true/\gl=true
      ·obtain⟨q1,q2,q3,rfl,rfl⟩:=h9;have f8:=d6 (by simp[q1,q2,q3])
       have f9:=J6 f8;clear f8 d5 d6;have a:xo=false∨(xo=true/\xg=false):=by cases xo <;> simp_all
       clear q1
       rcases a with rfl | ⟨rfl,rfl⟩
       all_goals
        go_upto_region 16 with (first
        | (go_at_call 92;refine (o.out _ (Below.refl _ _)).mono ?_;rintro e w6⟨rfl,r⟩;have E6:=J6 (show _/\_ from⟨M.out.1.over r,r⟩);clear c0 c1 c2 c3 c4 c5 c6 c7 c8 c9 g0;obtain⟨c0,c1,c2,c3,c4,c5,⟨c6,c7,c8,c9⟩,-⟩:=z2k E6.out.1;have f:=J6 (zbt M.out.2.2.2 r);have Q:=J6 (zbt m.out r))
        | (go_at_call 93;refine (d4.out _ E6.out.2).mono ?_;rintro e w7⟨rfl,g⟩;have f:=J6 (zbt f.out g);have Q:=J6 (zbt Q.out g)))
        have g1:Hid (∀ c,c<k+1->z1L p.h (p.L c)=true):=fun c V=>by
         by_cases e:c=k
         ·subst e;rw[N.out];exact f9.out
         ·exact HA.out c (by omega)
        clear f HA f9 HL M E6 o d4 m;go_wp2
        first | exact⟨⟨k+1,by omega,by go_num,Q,g1⟩,by simp[intOf];omega⟩ | ((repeat apply Exists.intro);exact⟨⟨k+1,by omega,by go_num,Q,g1⟩,rfl⟩)
      ·have e:G=false:=d5 (by rw[Bool.eq_false_iff];intro h;simp only[Bool.and_eq_true,Bool.not_eq_true',decide_eq_true_eq]at h;exact h9 ⟨h.1.1.1.1,h.1.1.1.2,h.1.1.2,h.1.2,h.2⟩)
       subst e;clear d5 d6 R Y HZ HA a8 K
       have a:(xo=true/\xg=true)∨((xo=false∨(xo=true/\xg=false))/\(¬ 0<=xb∨(0<=xb/\¬ xb<=p.h)∨(0<=xb/\xb<=p.h/\gt=false)∨(0<=xb/\xb<=p.h/\gt=true/\gl=false))):=by
        cases xo <;> cases xg <;> cases gt <;> cases gl <;> simp_all <;> omega
       clear h9
       rcases a with⟨rfl,rfl⟩ | ⟨rfl | ⟨rfl,rfl⟩,q2 | ⟨q2,q3⟩ | ⟨q2,q3,rfl⟩ | ⟨q2,q3,rfl,rfl⟩⟩
       all_goals
        go_wp2_with (first
        | (go_at_call 92;refine (o.out _ (Below.refl _ _)).mono ?_;rintro e w6⟨rfl,r⟩;have E6:=J6 (show _/\_ from⟨M.out.1.over r,r⟩);clear c0 c1 c2 c3 c4 c5 c6 c7 c8 c9 g0;obtain⟨c0,c1,c2,c3,c4,c5,⟨c6,c7,c8,c9⟩,-⟩:=z2k E6.out.1;have f:=J6 (zbt M.out.2.2.2 r);have Q:=J6 (zbt m.out r))
        | (go_at_call 93;refine (d4.out _ E6.out.2).mono ?_;rintro e w7⟨rfl,g⟩;have f:=J6 (zbt f.out g);have Q:=J6 (zbt Q.out g)))
        go_ret;exact⟨rfl,f.out⟩
   ·obtain rfl:k=2:=by omega
    rename World=>w9
    have A:=J6 (show _/\_ from⟨HZ.out.1.over E.out,zbt HZ.out.2 E.out⟩);obtain⟨z,d7,g2,g3⟩:=Y.out.q;obtain⟨Aq,Cq,eq,sq,-,cq,-⟩:=g2.open (z1h _ _ d7) (by decide)
    have a5:=(z0E A.out.1).1.2.2.2.2.2;rw[eq]at a5;have HQ:=J6 (show _/\_/\_ from⟨d7,g3,cq⟩);have i3:p.q.length<=1800000000000:=by omega
    clear d7 g3 cq g2 eq sq E HZ a8
    go_upto_region 18 with fail
    clear a5
    go_loopw [95] (fun i wl=>∃ (k:Nat),k<=p.q.length/\i=J I (k:Int)/\Hid (Bl w9 wl)/\Hid (∀ (i:Nat) (x:Int×Pkt),i<k->p.q[i]?=some x->z3i p.L x=true)) (fun i _=>p.q.length - (intOf i).toNat)
    case atStart=>exact⟨0,Nat.zero_le _,rfl,Below.refl _ _,fun i x hi=>absurd hi (by omega)⟩
    case round =>
     obtain⟨k,hk,rfl,E,HN⟩:=hrel
     by_cases F:k<p.q.length
     ·have j0:(k:Int)<(p.q.length:Int):=by omega
      obtain⟨x,hx⟩:∃ x,p.q[k]?=some x:=⟨_,List.getElem?_eq_getElem F⟩;obtain⟨y,Z⟩:∃ y,z[k]?=some y:=⟨_,List.getElem?_eq_getElem (by rw[HQ.out.1];exact F)⟩
      have b4:=HQ.out.2.1 k x y hx Z;obtain⟨y1,y2⟩:=y;obtain⟨⟨B1,n1,D1,g5,-⟩,⟨B2,n2,D2,g6,-⟩⟩:=id b4;dsimp only at g5 g6;subst g5 g6;have d:Bl w wr:=zbt A.out.2 E.out;obtain⟨bq,oq,rfl,-,i0,hcell⟩:=HQ.out.2.2 (by omega)
      have V:∀ j,j<7->∀ u,(akL x (J1 B1 n1 D1,J1 B2 n2 D2))[j]?=some u->wr.cell? ⟨bq,oq+k * 7+j,none⟩=some u:=fun j hj u hu=>by
       rw[d.cell (p:=⟨bq,oq+k * 7+j,none⟩) i0,Nat.add_assoc];exact hcell _ _ ((z2W p.q z k x _ j hx Z hj).trans hu)
      have e0:=V 0 (by omega) _ rfl
      have e1:=V 1 (by omega) _ rfl
      have e2:=V 2 (by omega) _ rfl
      have e3:=V 3 (by omega) _ rfl
      have e4:=V 4 (by omega) _ rfl
      have e5:=V 5 (by omega) _ rfl
      have e6:=V 6 (by omega) _ rfl
      rw[Nat.add_zero]at e0;have W:=J6 (fun h=>R.out.qus k x hx h);have N:=J6 hx;obtain⟨S1,T1,S2,T2,sb,so,db,dO,es,eu,hL⟩:=Rep.lies (b4.1.over d) (b4.2.over d);have d8:=fun (wx:World) (T:Bl wr wx)=>Cd.q2w x.2.k x.2.i x.2.v x.2.n x.2.S x.2.D S1 S2 T1 T2 sb so db dO wx (hL.later T);rw[<- es,<- eu]at d8;have b5:=J6 d8
      have gl:∀ c,c<2->wr.cell? ⟨w.heap.size,66+c * 14,none⟩=some (J3 (p.L c).on):=fun c d9=>by
       have:=z2E (p:=p) (v:=v) c d9 0 (by omega)
       rw[Nat.add_zero]at this;exact ((A.out.1.over E.out).cell _).trans this
      have e7:=J6 gl;have i4:w.heap.size<wr.heap.size:=(A.out.1.over E.out).lt;clear V hcell b4 hx Z es eu hL d8 gl;have B:∀ L,z3i L x=(decide (0<=x.1) && decide (x.1<=1) && (L x.1.toNat).on && decide (x.2.k≠1) && decide (Cd.z0o x.2.k x.2.i x.2.v x.2.n x.2.S x.2.D=0)):=fun _=>rfl;have B:=B p.L;generalize Cd.z0o x.2.k x.2.i x.2.v x.2.n x.2.S x.2.D=gn at *
      by_cases hr:0<=x.1/\x.1<=1
      ·obtain⟨c,g8,d9⟩:∃ c:Nat,x.1=(c:Int)/\c<2:=⟨x.1.toNat,by omega,by omega⟩
       have el:=e7.out c d9;rw[g8]at e0 B;have i1:(c:Int)<=1:=by omega
       have j1:(0:Int)<=(c:Int):=by omega
       have i5:(c:Int)<2:=by omega
       have g9:=J6 (show (decide (0<=(c:Int)) && decide ((c:Int)<=1))=true by simp[i1])
       rw[Int.toNat_natCast]at B;have H:=J6 (show Bl wr (wr.alloc (J5 #[J I (c:Int),J I x.2.k,J I x.2.i,J I x.2.v,J I x.2.n,J1 B1 n1 D1,J1 B2 n2 D2] 79)) from znw wr _);have b6:=J6 (zbt d H.out);have m:=J6 (zbt E.out H.out);have f:=b6;have Q:=m;have HV:=J6 B;clear B d hr g8;generalize (p.L c).on=lo at *
       by_cases hq:lo=true/\x.2.k≠1/\gn=0
       ·obtain⟨rfl,q1,rfl⟩:=hq;have X:z3i p.L x=true:=by rw[HV.out,g9.out];simp[q1]
        have i2:Hid (∀ (i:Nat) (y:Int×Pkt),i<k+1->p.q[i]?=some y->z3i p.L y=true):=fun i y hi Z=>by
         by_cases e:i=k
         ·subst e;rw[N.out]at Z;cases Z;exact X
         ·exact HN.out i y (by omega) Z
        have j2:(x.2.k == 1)=false:=by simpa using q1
        clear X HN HV W R HQ Y N HA
        go_upto_region 22 with (go_at_call 94;refine (b5.out _ (by exact H.out)).mono ?_;rintro e w7⟨rfl,g⟩;have f:=J6 (zbt b6.out g);have Q:=J6 (zbt m.out g))
        clear f b6 m H b5 e7;go_wp2;go_roundw
        case rel=>(repeat apply Exists.intro);exact⟨⟨k+1,by omega,by go_num,Q,i2⟩,rfl⟩
        case measure=>simp[intOf];omega
       ·have e:G=false:=W.out (by
         rw[HV.out,g9.out];rw[Bool.eq_false_iff];intro h;simp only[Bool.true_and,Bool.and_eq_true,decide_eq_true_eq]at h
         exact hq ⟨h.1.1,h.1.2,h.2⟩)
        subst e
        have a:lo=false∨(lo=true/\(x.2.k == 1)=true)∨(lo=true/\(x.2.k == 1)=false/\(gn != 0)=true):=by
         cases lo
         ·exact .inl rfl
         ·by_cases q1:x.2.k=1
          ·exact .inr (.inl ⟨rfl,by simpa using q1⟩)
          ·exact .inr (.inr ⟨rfl,by simpa using q1,by simp;intro q2;exact hq ⟨rfl,q1,q2⟩⟩)
        clear hq HV W R HQ Y N HA HN
        rcases a with rfl | ⟨rfl,q1⟩ | ⟨rfl,q1,q2⟩
        all_goals
         go_wp2_with (go_at_call 94;refine (b5.out _ (by exact H.out)).mono ?_;rintro e w7⟨rfl,g⟩;have f:=J6 (zbt b6.out g);have Q:=J6 (zbt m.out g))
         go_ret;exact⟨rfl,f.out⟩
      ·have e:G=false:=W.out (by
        rw[B];have:(decide (0<=x.1) && decide (x.1<=1))=false:=by rw[Bool.eq_false_iff];intro h;simp at h;exact hr h
        simp only[this,Bool.false_and])
       subst e;have H:=J6 (show Bl wr (wr.alloc (J5 #[J I x.1,J I x.2.k,J I x.2.i,J I x.2.v,J I x.2.n,J1 B1 n1 D1,J1 B2 n2 D2] 79)) from znw wr _);have f:=J6 (zbt d H.out);have a:x.1<0∨(0<=x.1/\1<x.1):=by omega
       clear B W R HQ Y N HA HN b5 e7 d hr
       rcases a with q1 | ⟨q1,q2⟩
       all_goals
        go_wp2;go_ret;exact⟨rfl,f.out⟩
     ·obtain rfl:k=p.q.length:=by omega
      have e:G=true:=R.out.all K.out HA.out (fun i x hx=>HN.out i x (List.getElem?_eq_some_iff.1 hx).1 hx);subst e;have d2:=J6 (zbt A.out.2 E.out);clear R HQ Y A HA HN E K;go_wp2;go_ret;exact⟨rfl,d2.out⟩
 ·have e:=R.out.one (by
   rw[Bool.eq_false_iff];intro h;simp only[Bool.and_eq_true,decide_eq_true_eq]at h
   exact h1 ⟨h.1.1.1.1.1,h.1.1.1.1.2,h.1.1.1.2,h.1.1.2,h.1.2,h.2⟩)
  subst e;have o:=J6 (fun wx T=>z5p p.set v.set P wx (Y.out.set.over T));generalize z0j p.s=gs at *;generalize z2h (-1) p.set=gt at *
  have a:gs=false∨(gs=true/\¬ 0<=p.h)∨(gs=true/\0<=p.h/\¬ p.h<=1099511627775)∨(gs=true/\0<=p.h/\p.h<=1099511627775/\¬ 0<=p.t)∨(gs=true/\0<=p.h/\p.h<=1099511627775/\0<=p.t/\¬ p.t<=1099511627776)∨(gs=true/\0<=p.h/\p.h<=1099511627775/\0<=p.t/\p.t<=1099511627776/\gt=false):=by
   cases gs
   ·exact .inl rfl
   ·cases gt
    ·by_cases q2:0<=p.h <;> by_cases q3:p.h<=1099511627775 <;> by_cases q4:0<=p.t <;> by_cases q5:p.t<=1099511627776 <;> simp_all
    ·by_cases q2:0<=p.h <;> by_cases q3:p.h<=1099511627775 <;> by_cases q4:0<=p.t <;> by_cases q5:p.t<=1099511627776 <;> simp_all
  clear h1 R
  rcases a with rfl | ⟨rfl,h2⟩ | ⟨rfl,h2,h3⟩ | ⟨rfl,h2,h3,h4⟩ | ⟨rfl,h2,h3,h4,h5⟩ | ⟨rfl,h2,h3,h4,h5,rfl⟩
  all_goals
   go_wp2_with (first
    | (go_at_call 91;refine (a7.out _ HX.out.2).mono ?_;rintro e w2⟨rfl,C⟩;have A:=J6 (show _/\_ from⟨HX.out.1.over C,zbt HX.out.2 C⟩);clear a0 a1 a2 a3 a4 a5 a6 C;obtain⟨⟨a0,a1,a2,a3,a4,a5⟩,a6⟩:=z0E A.out.1;have f:=J6 A.out.2)
    | (go_at_call 92;refine (o.out _ A.out.2).mono ?_;rintro e w3⟨rfl,U⟩;have f:=J6 (zbt A.out.2 U)))
   go_ret;exact⟨rfl,f.out⟩
end Pv
end Go.Proofs.YtjghbciepinofaaGreat
