/- Parts of the proof. -/
import Derived.Test.YtjghbciepinofaaGreatPL
import Derived.Test.YtjghbciepinofaaGreatPK8
import Derived.Test.YtjghbciepinofaaGreatPK21
set_option maxRecDepth 100000
set_option maxHeartbeats 16000000
namespace Go.Proofs.YtjghbciepinofaaGreat
open Go.Proofs.Tryz
open Value renaming int->J,slice->J1,pointer->J2,bool->J3,agg->J4
open IntKind renaming i64->I
open Obj renaming cells->J5
namespace Pv
open Go.RowKit
theorem z1h:∀ (q:List (Int×Pkt)) (z:List (Value×Value)),z.length=q.length->(quL q z).length=q.length * 7
 | [],[],_=>rfl
 | x :: q,y :: z,h=>by
  have:=z1h q z (by simpa using h)
  show (akL x y ++ quL q z).length=_
  rw[List.length_append,this,List.length_cons]
  show 7+_=_
  omega
 | [],_ :: _,h=>by simp at h
 | _ :: _,[],h=>by simp at h
theorem z7d:∀ (q:List (Int×Pkt)) (z:List (Value×Value)) (x:Int×Pkt) (y:Value×Value),z.length=q.length->quL (q ++ [x]) (z ++ [y])=quL q z ++ akL x y
 | [],[],x,y,_=>by simp[quL]
 | a :: q,b :: z,x,y,h=>by
  show akL a b ++ quL (q ++ [x]) (z ++ [y])=(akL a b ++ quL q z) ++ _
  rw[z7d q z x y (by simpa using h),List.append_assoc]
 | [],_ :: _,_,_,h=>by simp at h
 | _ :: _,[],_,_,h=>by simp at h
theorem z2W:∀ (q:List (Int×Pkt)) (z:List (Value×Value)) (i:Nat) (x:Int×Pkt) (y:Value×Value) (j:Nat),q[i]?=some x->z[i]?=some y->j<7->(quL q z)[i * 7+j]?=(akL x y)[j]?
 | a :: q,b :: z,0,x,y,j,h1,h2,hj=>by
  simp at h1 h2
  subst h1 h2
  show (akL a b ++ quL q z)[0 * 7+j]?=_
  rw[Nat.zero_mul,Nat.zero_add,List.getElem?_append_left (by exact hj)]
 | a :: q,b :: z,i+1,x,y,j,h1,h2,hj=>by
  show (akL a b ++ quL q z)[(i+1) * 7+j]?=_
  rw[List.getElem?_append_right (by show 7<=_;omega)]
  rw[show (i+1) * 7+j - (akL a b).length=i * 7+j by show (i+1) * 7+j - 7=_;omega]
  exact z2W q z i x y j (by simpa using h1) (by simpa using h2) hj
 | [],_,i,_,_,_,h1,_,_=>by simp at h1
 | _ :: _,[],i,_,_,_,_,h2,_=>by simp at h2
structure z8s(B:Nat)(w:World)(v:Value)(q:List (Int×Pkt))(z:List (Value×Value)):Prop where
 len:z.length=q.length
 own:w.ownsRow B 79 7 v q.length (quL q z)
 ins:∀ (i:Nat) (x:Int×Pkt) (y:Value×Value),q[i]?=some x->z[i]?=some y->Rep (fun b=>B<=b/\some b≠v.ownBlock) w y.1 2 16 (pwC x.2.S)/\Rep (fun b=>B<=b/\some b≠v.ownBlock) w y.2 1 8 (inC x.2.D)
theorem z8s.nil(B:Nat)(w:World):z8s B w (J1 none 0 0) [] []:=⟨rfl,World.ownsRow_nil _ _ _ _,fun i x y h=>by simp at h⟩
theorem z8s.over{B:Nat}{w w':World}{v:Value}{q:List (Int×Pkt)}{z:List (Value×Value)}(h:z8s B w v q z)(a:Bl w w'):z8s B w' v q z:=
 ⟨h.len,Ln.z2j h.own a,fun i x y b c=>⟨(h.ins i x y b c).1.over a,(h.ins i x y b c).2.over a⟩⟩
theorem z8s.rep{B:Nat}{w:World}{v:Value}{q:List (Int×Pkt)}{z:List (Value×Value)}(h:z8s B w v q z)(hl:q.length * 88<=140737488351232):q4T (fun b=>B<=b) w v q:=
 ⟨z,h.len,Rep.own h.own (by omega),fun i x y c d=>⟨(h.ins i x y c d).1.mono fun _ _ a=>a.1,(h.ins i x y c d).2.mono fun _ _ a=>a.1⟩⟩
theorem z8s.app{B:Nat}{w w':World}{v:Value}{q:List (Int×Pkt)}{z:List (Value×Value)}(h:z8s B w v q z){x:Int×Pkt}{y:Value×Value}(k:Rep (fun b=>B<=b/\some b≠v.ownBlock) w y.1 2 16 (pwC x.2.S)/\Rep (fun b=>B<=b/\some b≠v.ownBlock) w y.2 1 8 (inC x.2.D))
  {g cap:Nat} (o:w'.ownsRow B 79 7 (J1 (some ⟨g,0,none⟩) (q.length+1) cap) (q.length+1) (quL q z ++ akL x y)) (l:w.grownBy w' v.ownBlock) (f:v.ownBlock=some g∨g=w.heap.size) :
  z8s B w' (J1 (some ⟨g,0,none⟩) (q.length+1) cap) (q ++ [x]) (z ++ [y]):=by
 have key:∀ {u:Value} {s t:Nat} {cs:List Value},Rep (fun b=>B<=b/\some b≠v.ownBlock) w u s t cs->Rep (fun b=>B<=b/\some b≠(Value.slice (some ⟨g,0,none⟩) (q.length+1) cap).ownBlock) w' u s t cs:=fun m=>by
  have h1:=m.keep (w':=w') fun b c d=>l.block b d c.2;have h2:Rep (fun b=>(B<=b/\some b≠v.ownBlock)/\b<w.heap.size) w _ _ _ _:=m.mono fun b d c=>⟨c,d⟩;have h3:=h2.keep (w':=w') fun b c d=>l.block b d c.1.2;refine h3.mono fun b _ c=>⟨c.1.1,fun e=>?_⟩;have p:b=g:=by simpa [Value.ownBlock] using e
  subst p
  rcases f with f | f
  ·exact c.1.2 f.symm
  ·have:=c.2;omega
 refine⟨by simp[h.len],by rw[z7d q z x y h.len,List.length_append];exact o,fun i a b j c=>?_⟩
 by_cases n:i<q.length
 ·rw[List.getElem?_append_left n]at j;rw[List.getElem?_append_left (by rw[h.len];exact n)]at c
  exact⟨key (h.ins i a b j c).1,key (h.ins i a b j c).2⟩
 ·rw[List.getElem?_append_right (by omega)]at j
  rw[List.getElem?_append_right (by rw[h.len];omega),h.len]at c
  rcases Nat.eq_zero_or_pos (i - q.length) with h0 | h0
  ·rw[h0]at j c
   simp at j c
   subst j c;exact⟨key k.1,key k.2⟩
  ·rw[List.getElem?_eq_none (by simp;omega)]at j
   cases j
noncomputable def j0l:Code:=z8O [1,1,1,1,1,0,1,9,9,1,1,0,9,1] (f16.body.getD .skip)
theorem q3W:(prog.info? 79).map (fun i=>(i.zero,i.size,i.bytes))=some (some (J4 #[J I 0,J I 0,J I 0,J I 0,J I 0,J1 none 0 0,J1 none 0 0]),7,88):=by kernel_rfl
set_option maxRecDepth 1000000 in
theorem q8r(B d:Nat)(lv:Value)(q:List (Int×Pkt))(z:List (Value×Value))(x:Int×Pkt)(y:Value×Value)(P:Nat->Prop)(wl:World)(hq:z8s B wl lv q z)(hB:B<=wl.heap.size)(hl:(q.length+1) * 88<=140737488351232)
  (hy:Rep P wl y.1 2 16 (pwC x.2.S)/\Rep P wl y.2 1 8 (inC x.2.D)) (l:CAt 79 wl d #[J I x.1,J I x.2.k,J I x.2.i,J I x.2.v,J I x.2.n,y.1,y.2]) (v0 v1 v2 v3 v4 v6 v8 v9 r w A C E F G H L M N R T U V W Y Z a0 a1 a2 a3 a4 a5 a6 a9 b4 b9 c4 c5 c7 c8 c9 d0 d1 d2 d3 d4 d5 d6 d7 d8 d9 e0 f5 f6 f7 f8 f9 g0 g1 g2 g3 e3 e4 e5 e6:Value) (Q:Exit->Act->World->Prop)
  (hQ:∀ (e7:Value) (z':List (Value×Value)) (g5 g6 g9 h4 h5 h6 h8 h9 i1:Value) (w5:World),Below B wl w5->z8s B w5 e7 (q ++ [x]) z'->Q .normal ⟨List.toArray (v0 :: v1 :: v2 :: v3 :: v4 :: (e7) :: v6 :: (J2 (some ⟨d,0,none⟩)) :: v8 :: v9 :: r :: w :: A :: C :: E :: F :: G :: H :: L :: M :: N :: R :: T :: U :: V :: W :: Y :: Z :: a0 :: a1 :: a2 :: a3 :: a4 :: a5 :: a6 :: a9 :: b4 :: b9 :: c4 :: c5 :: c7 :: c8 :: c9 :: d0 :: d1 :: d2 :: d3 :: d4 :: d5 :: d6 :: d7 :: d8 :: d9 :: e0 :: (g5) :: (g6) :: (g9) :: (h4) :: (h5) :: (h6) :: (h8) :: (h9) :: (i1) :: e3 :: e4 :: e5 :: e6 :: []),[]⟩ w5) :
  Code.wp prog j0l Q ⟨List.toArray (v0 :: v1 :: v2 :: v3 :: v4 :: (lv) :: v6 :: (J2 (some ⟨d,0,none⟩)) :: v8 :: v9 :: r :: w :: A :: C :: E :: F :: G :: H :: L :: M :: N :: R :: T :: U :: V :: W :: Y :: Z :: a0 :: a1 :: a2 :: a3 :: a4 :: a5 :: a6 :: a9 :: b4 :: b9 :: c4 :: c5 :: c7 :: c8 :: c9 :: d0 :: d1 :: d2 :: d3 :: d4 :: d5 :: d6 :: d7 :: d8 :: d9 :: e0 :: f5 :: f6 :: f7 :: f8 :: f9 :: g0 :: g1 :: g2 :: g3 :: e3 :: e4 :: e5 :: e6 :: []),[]⟩ wl:=by
 obtain⟨i0,hi,i2,i3,i4⟩:=info_parts q3W;have HK:=J6 hQ;have HQ:=J6 hq;have HY:=J6 hy
 have hF:∀ wx,Bl wl wx->wx.cell? ⟨d,0,none⟩=some (J I x.1)/\wx.cell? ⟨d,1,none⟩=some (J I x.2.k)/\wx.cell? ⟨d,2,none⟩=some (J I x.2.i)/\wx.cell? ⟨d,3,none⟩=some (J I x.2.v)/\wx.cell? ⟨d,4,none⟩=some (J I x.2.n)/\wx.cell? ⟨d,5,none⟩=some y.1/\wx.cell? ⟨d,6,none⟩=some y.2:=fun wx h =>
  ⟨(l.over h).cell 0,(l.over h).cell 1,(l.over h).cell 2,(l.over h).cell 3,(l.over h).cell 4,(l.over h).cell 5,(l.over h).cell 6⟩
 have i5:y.1.oneCell'=true/\y.2.oneCell'=true:=by
  obtain⟨⟨_,_,_,e1,_⟩,⟨_,_,_,e2,_⟩⟩:=hy;rw[e1,e2];exact⟨rfl,rfl⟩
 have bq:q.length+1<=maxLen:=by unfold maxLen;omega
 have i6:=hq.own.1;clear hQ hq hy l;obtain⟨y1,y2⟩:=y;dsimp only at hF i5
 conv=>arg 2;whnf
 refine wp_region_noPanic ?_;have a:Bl wl wl.drew:=(Below.refl _ wl).drew;refine O.z3J (c:=8) (S:=fun wx=>Bl wl wx) (by kernel_rfl) ?_
 refine O.z0R (i:=0) (v:=lv) (some 54) rfl rfl (by kernel_rfl) (by kernel_rfl) (by kernel_rfl) (by decide) (fun _ _ _ h=>h) (Or.inl ⟨by rfl,?_⟩) a ?_
 ·intro wx;go_simp
 simp only[O.pp,O.pb,O.pc];refine O.z0R (i:=1) (v:=J2 (some ⟨d,0,none⟩)) (some 55) rfl rfl (by kernel_rfl) (by kernel_rfl) (by kernel_rfl) (by decide) (fun _ _ _ h=>h) (Or.inl ⟨by rfl,?_⟩) a ?_
 ·intro wx;go_simp
 simp only[O.pp,O.pb,O.pc];refine O.z0R (i:=3) (v:=J2 (some ⟨d,1,none⟩)) (some 57) rfl rfl (by kernel_rfl) (by kernel_rfl) (by kernel_rfl) (by decide) (fun _ _ _ h=>h) (Or.inl ⟨by rfl,?_⟩) a ?_
 ·intro wx;go_simp
 simp only[O.pp,O.pb,O.pc];refine O.z1m (i:=2) (v:=J I x.1) (some 56) rfl rfl (by kernel_rfl) (by kernel_rfl) (by kernel_rfl) (by kernel_rfl) (by decide) (fun _ _ _ h=>h) (Or.inl ⟨by rfl,?_⟩) a ?_
 ·intro wx o;obtain⟨l0,l1,l2,l3,l4,l5,l6⟩:=hF wx o;go_simp
 simp only[O.pp,O.pb,O.pc];refine O.z1m (i:=4) (v:=J4 #[J I x.2.k,J I x.2.i,J I x.2.v,J I x.2.n,y1,y2]) (some 58) rfl rfl (by kernel_rfl) (by kernel_rfl) (by kernel_rfl) (by kernel_rfl) (by decide) (fun _ _ _ h=>h) (Or.inl ⟨by rfl,?_⟩) a ?_
 ·intro wx o;obtain⟨l0,l1,l2,l3,l4,l5,l6⟩:=hF wx o;go_simp
 simp only[O.pp,O.pb,O.pc];refine O.z5f (i:=5) (by kernel_rfl) rfl (by decide) (fun K m=>?_)
 rw[if_pos (by rfl)]
 go_simp;refine (q2p x.2.k x.2.i x.2.v x.2.n x.2.S x.2.D y1 y2 P wl.drew (HY.out.1.over a) (HY.out.2.over a)).mono ?_;rintro e w5⟨f,g,rfl,r1,r2,e8⟩;have b5:Bl wl w5:=a.trans e8;refine m _ _ b5 ?_;clear m K a;have a:=b5;refine O.z0R (i:=6) (v:=J4 #[J I x.1,J I x.2.k,J I x.2.i,J I x.2.v,J I x.2.n,f,g]) (some 60) rfl rfl (by kernel_rfl) (by kernel_rfl) (by kernel_rfl) (by decide) (fun _ _ _ h=>h) (Or.inl ⟨by rfl,?_⟩) a ?_
 ·intro wx;go_simp
 simp only[O.pp,O.pb,O.pc];refine O.z5f (i:=7) (by kernel_rfl) rfl (by decide) (fun K m=>?_)
 rw[if_pos (by rfl)]
 go_simp;have b6:Bl wl (w5.alloc (J5 #[J I x.1,J I x.2.k,J I x.2.i,J I x.2.v,J I x.2.n,f,g] 79)):=b5.alloc b5.size _;refine m _ _ b6 ?_;clear m K a;have c6:Bl w5 (w5.alloc (J5 #[J I x.1,J I x.2.k,J I x.2.i,J I x.2.v,J I x.2.n,f,g] 79)):=znw w5 _;have D6:=CAt.new 79 w5 #[J I x.1,J I x.2.k,J I x.2.i,J I x.2.v,J I x.2.n,f,g];have q6:=HQ.out.over b6
 have key:∀ {u:Value} {s t:Nat} {cs:List Value},Rep (fun b=>wl.drew.heap.size<=b) w5 u s t cs->Rep (fun b=>B<=b/\some b≠lv.ownBlock) (w5.alloc (J5 #[J I x.1,J I x.2.k,J I x.2.i,J I x.2.v,J I x.2.n,f,g] 79)) u s t cs:=fun hr=>(hr.over c6).mono fun b _ a=>by
  have i7:wl.heap.size<=b:=a;exact⟨by omega,fun e=>by have:=(World.ownsRow.lt HQ.out.own b e.symm).2;omega⟩
 have HR:=J6 (show _/\_ from⟨key r1,key r2⟩)
 have oc:f.oneCell'=true/\g.oneCell'=true:=by
  obtain⟨_,_,_,e1,_⟩:=r1;obtain⟨_,_,_,e2,_⟩:=r2;rw[e1,e2];exact⟨rfl,rfl⟩
 clear key r1 r2 e8 b5 c6 hF HY;generalize w5.heap.size=a8 at *;generalize w5.alloc (J5 #[J I x.1,J I x.2.k,J I x.2.i,J I x.2.v,J I x.2.n,f,g] 79)=w6 at *;refine O.z5H (by kernel_rfl) rfl (fun K m=>?_)
 refine step_append_lies _ rfl _ _ 45 rfl B 79 i0 _ 7 88 underlying45 hi i2 i3 i4 rfl (by decide) lv q.length (quL q z) rfl q6.own ⟨a8,0,none⟩ 1 1 (akL x (f,g)) rfl rfl ?_ ?_ (by decide) bq (by omega) (Nat.le_trans hB b6.size) w6.heap.size rfl ?_
 ·intro j u hu;rw[Addr.add_lit,Nat.zero_add,D6.cell]
  simpa [akL] using hu
 ·intro u hu;simp only[akL,List.mem_cons,List.not_mem_nil,or_false]at hu
  rcases hu with rfl | rfl | rfl | rfl | rfl | rfl | rfl <;> first | rfl | exact oc.1 | exact oc.2
 intro g8 cap w7 e9 p f4 _;refine m _ _ ?_;clear m K;have q7:=q6.app (x:=x) (y:=(f,g)) HR.out e9 p f4;have b7:Below B wl w7:=(b6.mono hB).grown p (Nat.le_trans hB b6.size) (fun k hk=>(World.ownsRow.lt q6.own k hk).1);clear e9 p f4 q6 HR D6;go_simp;refine O.X 9 (J1 (some ⟨g8,0,none⟩) (q.length+1) cap) 5 rfl rfl ?_ ?_
 ·intro wx;go_simp
 simp only[O.pp,O.pb,O.pc];refine wpAny_done (by kernel_rfl) ?_ _
 exact NoPanic.normal (HK.out _ _ _ _ _ _ _ _ _ _ _ w7 b7 q7)
end Pv
section
theorem z0S(s:St):z0j s=true↔s.b.good=true/\1<=s.next/\s.next<=1125899906842624/\s.W.length<=60/\wOk s.next 0 s.W=true/\(∀ k,k<6->vOk (s.V k)=true/\z2F s.S k 4=true/\psh s.S k 4=(s.V k).sh)/\z5c s.V 6=s.b.bo/\z1N s.W=s.b.wa/\z2l s.V 6=s.b.bu:=by
 have i:pvs s 6=true↔∀ k,k<6->vOk (s.V k)=true/\z2F s.S k 4=true/\psh s.S k 4=(s.V k).sh:=by
  constructor
  ·intro h k j;have:=z6h h j;simp only[z6t,q0d,Bool.and_eq_true,decide_eq_true_eq]at this;exact⟨this.1,this.2.1,this.2.2⟩
  ·intro h;simp only[pvs,z6t,q0d,Bool.and_eq_true,decide_eq_true_eq,true_and];exact⟨⟨⟨⟨⟨h 0 (by omega),h 1 (by omega)⟩,h 2 (by omega)⟩,h 3 (by omega)⟩,h 4 (by omega)⟩,h 5 (by omega)⟩
 unfold z0j bal;simp only[Bool.and_eq_true,decide_eq_true_eq,i]
 constructor
 ·rintro⟨⟨⟨⟨⟨⟨h1,h2⟩,h3⟩,a⟩,c⟩,d⟩,⟨e,f⟩,g⟩;exact⟨h1,h2,h3,a,c,d,e,f,g⟩
 ·rintro⟨h1,h2,h3,a,c,d,e,f,g⟩;exact⟨⟨⟨⟨⟨⟨h1,h2⟩,h3⟩,a⟩,c⟩,d⟩,⟨e,f⟩,g⟩
theorem z3a(x:Vd):vOk x=true↔(0<=x.tok/\x.tok<=1125899906842624)/\(0<=x.sh/\x.sh<=1125899906842624)/\(0<=x.lost/\x.lost<=1125899906842624)/\(0<x.tok->x.sh≠0)/\(x.dead=true->x.jail=true):=by
 unfold vOk;simp only[Bool.and_eq_true,z1n,Bool.not_eq_true',Bool.and_eq_false_iff,decide_eq_false_iff_not,Bool.or_eq_true]
 constructor
 ·rintro⟨⟨⟨⟨h1,h2⟩,h3⟩,b⟩,a⟩;refine⟨h1,h2,h3,fun h=>b.resolve_left (fun c=>c h),fun h=>?_⟩
  rcases a with a | a
  ·exact a
  ·rw[h]at a;cases a
 ·rintro⟨h1,h2,h3,b,a⟩;refine⟨⟨⟨⟨h1,h2⟩,h3⟩,?_⟩,?_⟩
  ·by_cases h:0<x.tok
   ·exact .inr (b h)
   ·exact .inl h
  ·cases hd:x.dead
   ·exact .inr rfl
   ·exact .inl (a hd)
theorem six{v:Nat}(h:v<6):v=0∨v=1∨v=2∨v=3∨v=4∨v=5:=by omega
theorem four{v:Nat}(h:v<4):v=0∨v=1∨v=2∨v=3:=by omega
theorem q0j(V:Nat->Vd)(v:Nat)(x:Vd)(a:v<6):z5c (z2a V v x) 6=z5c V 6+x.tok - (V v).tok:=by
 rcases six a with rfl | rfl | rfl | rfl | rfl | rfl <;> simp[z5c,z2a] <;> omega
theorem z7P(V:Nat->Vd)(v:Nat)(x:Vd)(a:v<6):z2l (z2a V v x) 6=z2l V 6+x.lost - (V v).lost:=by
 rcases six a with rfl | rfl | rfl | rfl | rfl | rfl <;> simp[z2l,z2a] <;> omega
theorem q7h{V:Nat->Vd}(h:∀ k,k<6->0<=(V k).tok){v:Nat}(a:v<6):(V v).tok<=z5c V 6:=by
 have h0:=h 0 (by omega);have h1:=h 1 (by omega);have h2:=h 2 (by omega);have h3:=h 3 (by omega);have b:=h 4 (by omega);have c:=h 5 (by omega)
 simp only[z5c]
 rcases six a with rfl | rfl | rfl | rfl | rfl | rfl <;> omega
end
section
def z2O(t:Int)(x:Wt):Bool:=decide (x.due<=t) && decide (x.h0=0/\x.h1=0)
def z0w(t:Int)(W:List Wt):List Wt:=W.filter fun x=>!z2O t x
def z4y(t:Int)(W:List Wt):List Wt:=W.filter (z2O t)
def z0D(t:Int)(W:List Wt):List Int:=(z4y t W).map (·.num)
def z2n(t:Int)(b:Bk)(W:List Wt):Bk:=W.foldl (fun b x=>if z2O t x=true then (z3R b x.d x.amt).1 else b) b
def z3e(s:St)(t:Int):St:={ s with b:=z2n t s.b s.W,W:=z0w t s.W }
theorem z0K{W:List Wt}{k:Nat}{x:Wt}(h:W[k]?=some x):W.take (k+1)=W.take k ++ [x]:=by
 rw[List.take_add_one,h];rfl
theorem z2r:∀ A B:List Wt,z1N (A ++ B)=z1N A+z1N B
 | [],B=>by simp[z1N]
 | x :: A,B=>by simp only[List.cons_append,z1N,z2r A B];omega
theorem z4P{next:Int}:∀ {W:List Wt} {last:Int},wOk next last W=true->∀ x∈W,last<x.num/\x.num<next/\(0<=x.d/\x.d<4)/\(0<=x.v/\x.v<6)/\(0<=x.amt/\x.amt<=1125899906842624)/\0<=x.hei/\0<=x.due
 | [],_,_,x,a=>by cases a
 | y :: W,last,h,x,a=>by
  simp only[wOk,q1W,Bool.and_eq_true,decide_eq_true_eq,z5v,z3g,z1n]at h;obtain⟨⟨⟨⟨⟨⟨⟨h1,h2⟩,h3⟩,b⟩,c⟩,e⟩,f⟩,g⟩:=h
  rcases List.mem_cons.1 a with rfl | a
  ·exact⟨h1,h2,h3,b,c,e,f⟩
  ·have:=z4P g x a;exact⟨by omega,this.2⟩
theorem q3P{next:Int}:∀ {W:List Wt} {last a:Int},wOk next last W=true->a<last->wOk next a W=true
 | [],_,_,_,_=>rfl
 | y :: W,last,a,h,hl=>by
  simp only[wOk,q1W,Bool.and_eq_true,decide_eq_true_eq]at h ⊢;obtain⟨⟨⟨⟨⟨⟨⟨h1,h2⟩,h3⟩,b⟩,c⟩,d⟩,e⟩,f⟩:=h;exact⟨⟨⟨⟨⟨⟨⟨by omega,h2⟩,h3⟩,b⟩,c⟩,d⟩,e⟩,f⟩
theorem z6k{next:Int}(p:Wt->Bool):∀ {W:List Wt} {last:Int},wOk next last W=true->wOk next last (W.filter p)=true
 | [],_,_=>rfl
 | y :: W,last,h=>by
  have b:=z4P h y (List.mem_cons_self ..);simp only[wOk,Bool.and_eq_true]at h;have a:=z6k p h.2;rw[List.filter_cons]
  split
  ·simp only[wOk,Bool.and_eq_true];exact⟨h.1,a⟩
  ·exact q3P a (by omega)
theorem z2q:∀ {W:List Wt},(∀ x∈W,0<=x.amt)->0<=z1N W
 | [],_=>Int.le_refl _
 | x :: W,h=>by
  have:=h x (List.mem_cons_self ..);have:=z2q (W:=W) fun y a=>h y (List.mem_cons_of_mem _ a);simp only[z1N];omega
theorem z4R(p:Wt->Bool):∀ W:List Wt,z1N (W.filter p)+z1N (W.filter fun x=>!p x)=z1N W
 | []=>rfl
 | x :: W=>by
  have:=z4R p W;rw[List.filter_cons,List.filter_cons];cases p x <;> simp[z1N] <;> omega
theorem z2M(t:Int)(W:List Wt)(x:Wt):z0w t (W ++ [x])=if z2O t x=true then z0w t W else z0w t W ++ [x]:=by
 unfold z0w;rw[List.filter_append];cases h:z2O t x <;> simp[h]
theorem z2u(t:Int)(W:List Wt)(x:Wt):z4y t (W ++ [x])=if z2O t x=true then z4y t W ++ [x] else z4y t W:=by
 unfold z4y;rw[List.filter_append];cases h:z2O t x <;> simp[h]
theorem z3Z(t:Int)(b:Bk)(W:List Wt)(x:Wt):z2n t b (W ++ [x])=if z2O t x=true then (z3R (z2n t b W) x.d x.amt).1 else z2n t b W:=by
 unfold z2n;rw[List.foldl_append];rfl
theorem z9F{b:Bk}{d n:Int}(hd:0<=d/\d<4)(c:b.good=true)(h0:0<=n)(h1:n<=1125899906842624)(h2:n<=b.wa):(z3R b d n).2=0/\(z3R b d n).1.good=true/\(z3R b d n).1.bo=b.bo/\(z3R b d n).1.wa=b.wa - n/\(z3R b d n).1.bu=b.bu:=by
 have h:=z6U (f:=5) (t:=d.toNat) c h0 h1 h2;have a:=(q5j b d n).yes;unfold z3R at *;rw[if_pos hd]at *;rw[h]at a ⊢;refine⟨rfl,(a rfl).2.1,?_⟩;have e:d.toNat<4:=by omega
 generalize d.toNat=i at *
 rcases four e with rfl | rfl | rfl | rfl <;> simp[Bk.put,Bk.get]
theorem q6K{s:St}(c:z0j s=true)(t:Int){k:Nat}{x:Wt}(d:s.W[k]?=some x):x.amt<=s.b.wa - z1N (z4y t (s.W.take k)):=by
 obtain⟨h1,h2,h3,i,e,j,l,m,n⟩:=(z0S s).1 c;have hmem:=z4P e;obtain⟨f,g⟩:=List.getElem?_eq_some_iff.1 d;have h:s.W=s.W.take k ++ (x :: s.W.drop (k+1)):=by rw[<- g,<- List.drop_eq_getElem_cons f,List.take_append_drop]
 have o:z1N s.W=z1N (s.W.take k)+(x.amt+z1N (s.W.drop (k+1))):=by
  conv=>lhs;rw[h]
  rw[z2r];rfl
 have p:=z4R (z2O t) (s.W.take k);have q:=z2q (W:=(s.W.take k).filter fun x=>!z2O t x) fun y a=>(hmem y (List.mem_of_mem_take (List.mem_filter.1 a).1)).2.2.2.2.1.1;have r:=z2q (W:=s.W.drop (k+1)) fun y a=>(hmem y (List.mem_of_mem_drop a)).2.2.2.2.1.1;unfold z4y;omega
theorem q4A{s:St}(d:z0j s=true)(t:Int):∀ k,k<=s.W.length->(z2n t s.b (s.W.take k)).good=true/\(z2n t s.b (s.W.take k)).bo=s.b.bo/\(z2n t s.b (s.W.take k)).bu=s.b.bu/\(z2n t s.b (s.W.take k)).wa=s.b.wa - z1N (z4y t (s.W.take k)):=by
 obtain⟨h1,h2,h3,p,i,q,r,u,v⟩:=(z0S s).1 d;intro k
 induction k with
 | zero=>intro _;refine⟨h1,rfl,rfl,?_⟩;simp[z4y,z2n,z1N]
 | succ k ih =>
  intro w;obtain⟨e,f,g,a⟩:=ih (by omega)
  have h:s.W[k]?=some (s.W[k]'(by omega)):=List.getElem?_eq_getElem _
  have c:=z4P i _ (List.getElem_mem (show k<s.W.length by omega))
  rw[z0K h,z3Z,z2u];have j:=q6K d t h;generalize s.W[k]'(by omega)=x at *
  split
  ·obtain⟨y,l,m,n,o⟩:=z9F c.2.2.1 e c.2.2.2.2.1.1 c.2.2.2.2.1.2 (by rw[a];omega)
   refine⟨l,by rw[m,f],by rw[o,g],?_⟩
   rw[n,a,z2r];simp only[z1N];omega
  ·exact⟨e,f,g,a⟩
theorem z9E{s:St}(a:z0j s=true)(t:Int){k:Nat}{x:Wt}(c:s.W[k]?=some x)(hd:z2O t x=true):z3R (z2n t s.b (s.W.take k)) x.d x.amt=(z2n t s.b (s.W.take (k+1)),0):=by
 obtain⟨g,h⟩:=List.getElem?_eq_some_iff.1 c;obtain⟨i,m,n,j⟩:=q4A a t k (by omega)
 have e:=z4P ((z0S s).1 a).2.2.2.2.1 x (h ▸ List.getElem_mem g);have f:=q6K a t c;obtain⟨l,-⟩:=z9F e.2.2.1 i e.2.2.2.2.1.1 e.2.2.2.2.1.2 (by rw[j];exact f)
 rw[z0K c,z3Z,if_pos hd,<- l]
theorem q2F{s:St}(a:z0j s=true)(t:Int):(z3e s t).b.good=true/\(z3e s t).b.bo=s.b.bo/\(z3e s t).b.bu=s.b.bu/\(z3e s t).b.wa=s.b.wa - z1N (z4y t s.W):=by
 have:=q4A a t s.W.length (Nat.le_refl _)
 rwa [List.take_length]at this
theorem z9S{s:St}(a:z0j s=true)(t:Int):z0j (z3e s t)=true:=by
 obtain⟨b,c,d,e⟩:=q2F a t;rw[z0S]at a ⊢;obtain⟨h1,h2,h3,f,g,h,i,j,k⟩:=a;refine⟨b,h2,h3,?_,z6k _ g,h,i.trans c.symm,?_,k.trans d.symm⟩
 ·exact Nat.le_trans (List.length_filter_le _ _) f
 ·rw[e,<- j,<- z4R (z2O t) s.W]
  show z1N (z0w t s.W)=_
  unfold z4y z0w;omega
end
section
def ptN(n f:Int):Int:=Ra.ptN n f
def ptE(n f:Int):Int:=Ra.ptE n f
theorem q5E{n f:Int}(a:0<=n/\n<=1125899906842624)(b:0<=f/\f<=1000):ptE n f=0/\0<=ptN n f/\ptN n f<=n:=by
 obtain⟨h1,h2⟩:=Ra.z9t (n:=n) (f:=f) ⟨Ra.z8A.2 a,b⟩;refine⟨h2,?_,?_⟩
 ·show 0<=Ra.ptN n f
  rw[h1];exact Int.ediv_nonneg (Int.mul_nonneg a.1 b.1) (by omega)
 ·show Ra.ptN n f<=n
  rw[h1];exact Int.ediv_le_of_le_mul (by omega) (Int.mul_le_mul_of_nonneg_left b.2 a.1)
def q1V(v h:Int)(x:Wt):Bool:=decide (x.v=v) && decide (h<=x.hei)
def slX(v h f:Int)(x:Wt):Wt:=if q1V v h x=true then { x with amt:=x.amt - ptN x.amt f } else x
def slW(v h f:Int)(W:List Wt):List Wt:=W.map (slX v h f)
def slP(v h f:Int)(x:Wt):Int:=if q1V v h x=true then ptN x.amt f else 0
def slN(v h f:Int):List Wt->Int
 | []=>0
 | x :: W=>slP v h f x+slN v h f W
theorem z6D(v h f:Int):∀ A B:List Wt,slN v h f (A ++ B)=slN v h f A+slN v h f B
 | [],B=>by simp[slN]
 | x :: A,B=>by simp only[List.cons_append,slN,z6D v h f A B];omega
theorem q6Q{v h f:Int}{x:Wt}(a:0<=x.amt/\x.amt<=1125899906842624)(b:0<=f/\f<=1000):0<=slP v h f x/\slP v h f x<=x.amt:=by
 have:=q5E a b;unfold slP
 split <;> omega
theorem z9A{v h f:Int}(a:0<=f/\f<=1000):∀ {W:List Wt},(∀ x∈W,0<=x.amt/\x.amt<=1125899906842624)->0<=slN v h f W/\slN v h f W<=z1N W
 | [],_=>⟨Int.le_refl _,Int.le_refl _⟩
 | x :: W,h1=>by
  have:=q6Q (v:=v) (h:=h) (h1 x (List.mem_cons_self ..)) a;have:=z9A (v:=v) (h:=h) a (W:=W) fun y b=>h1 y (List.mem_cons_of_mem _ b);simp only[slN,z1N];omega
theorem q3K(v h f:Int):∀ W:List Wt,z1N (slW v h f W)=z1N W - slN v h f W
 | []=>rfl
 | x :: W=>by
  have:=q3K v h f W;simp only[slW,List.map_cons,z1N,slN]at *
  have e:(slX v h f x).amt=x.amt - slP v h f x:=by
   unfold slX slP
   split
   ·rfl
   ·omega
  omega
theorem q2Y(v h f:Int){W:List Wt}{k:Nat}{x:Wt}(a:W[k]?=some x):slW v h f (W.take (k+1)) ++ W.drop (k+1)=(slW v h f (W.take k) ++ W.drop k).set k (slX v h f x)/\(slW v h f (W.take k) ++ W.drop k)[k]?=some x/\slN v h f (W.take (k+1))=slN v h f (W.take k)+slP v h f x:=by
 obtain⟨b,c⟩:=List.getElem?_eq_some_iff.1 a;have hl:(slW v h f (W.take k)).length=k:=by unfold slW;rw[List.length_map,List.length_take];omega
 have hd:W.drop k=x :: W.drop (k+1):=by rw[<- c];exact List.drop_eq_getElem_cons b
 refine⟨?_,?_,?_⟩
 ·rw[z0K a,hd];unfold slW at *;rw[List.map_append,List.set_append_right _ _ (by omega),hl,Nat.sub_self,List.append_assoc]
  rfl
 ·rw[List.getElem?_append_right (by omega),hl,Nat.sub_self,hd]
  rfl
 ·rw[z0K a,z6D]
  simp[slN]
theorem q4q{v h f:Int}{x:Wt}(a:q1V v h x=false):slX v h f x=x/\slP v h f x=0:=by
 unfold slX slP;rw[if_neg (by simp[a]),if_neg (by simp[a])]
 exact⟨rfl,rfl⟩
theorem q6w{v h f:Int}{x:Wt}(a:q1V v h x=true):slX v h f x={ x with amt:=x.amt - ptN x.amt f }/\slP v h f x=ptN x.amt f:=by
 unfold slX slP;rw[if_pos a,if_pos a];exact⟨rfl,rfl⟩
theorem z1U{W:List Wt}{k:Nat}{x:Wt}(h:W[k]?=some x):W.set k x=W:=by
 obtain⟨a,rfl⟩:=List.getElem?_eq_some_iff.1 h;exact List.set_getElem_self a
end
section
open Go.RowKit
theorem j1f(w:World)(a b c d:Int):(Op.equalIn 10000 125 (J4 #[J I a,J I b]) (J4 #[J I c,J I d])).run prog w=.ok (decide (a=c/\b=d)) w:=by
 have e:(prog.info? 3).isSome=true:=by kernel_rfl
 obtain⟨i,e⟩:=Option.isSome_iff_exists.1 e;have f:prog.cellsOf 3=1:=by kernel_rfl
 rw[run_equalIn_array w 9999 _ _ underlying125 e,f,show List.range 2=[0,1] from rfl];simp only[Op.eqItems];go_simp
 by_cases h0:a=c <;> by_cases h1:b=d <;> simp[h0,h1]
theorem j0Z(w:World)(a b:Int):(binOp .neq 125 (J4 #[J I a,J I b]) (J4 #[J I 0,J I 0])).run prog w=.ok (J3 (!decide (a=0/\b=0))) w:=by
 rw[run_neq_struct,j1f];rfl
theorem q1p(x:Wt)(w:World):Calls prog 68 #[J4 #[J I x.num,J I x.d,J I x.v,J I x.amt,J I x.hei,J I x.due,J I x.h0,J I x.h1]] w fun e w'=>e=.returned (J3 (!decide (x.h0=0/\x.h1=0)))/\Bl w w':=by
 have a:=fun w=>j0Z w x.h0 x.h1
 go_enter func68,ntmps68
 go_wp2;go_ret;refine⟨?_,znw w _⟩
 show Ending.returned (Value.bool (!decide (x.h0=0) || !decide (x.h1=0)))=_
 by_cases h0:x.h0=0 <;> by_cases h1:x.h1=0 <;> simp[h0,h1]
def nuL(l:List Int):List Value:=l.map fun n=>.int .i64 n
def z5W(B:Nat)(w:World)(A:Option Addr)(C:Nat)(l:List Int):Prop:=w.ownsRow B 3 1 (J1 A l.length C) l.length (nuL l)
theorem q8T:(prog.info? 3).map (fun i=>(i.zero,i.size,i.bytes))=some (some (J I 0),1,8):=by kernel_rfl
theorem z5W.over{B:Nat}{w w':World}{A:Option Addr}{C:Nat}{l:List Int}(h:z5W B w A C l)(a:Bl w w'):z5W B w' A C l:=z0n h fun k b=>a.block k (World.ownsRow.lt h k b).2
theorem j1k(B:Nat)(w:World)(A:Option Addr)(C y:Nat)(l:List Int)(x:Int)(h:z5W B w A C l)(p:l.length<=60)(q:B<=w.heap.size)(r:w.cell? ⟨y,0,none⟩=some (J I x)) :
  ∃ g C' w',(Builtin.append_ #[34,34] 34 #[J1 A l.length C,J1 (some ⟨y,0,none⟩) 1 1]).run prog w=.ok (J1 (some ⟨g,0,none⟩) (l.length+1) C') w'/\z5W B w' (some ⟨g,0,none⟩) C' (l ++ [x])/\B<=g/\g<w'.heap.size/\Below B w w'/\(∀ k,k<w.heap.size->some k≠(Value.slice A l.length C).ownBlock->g≠k/\w'.heap[k]?=w.heap[k]?):=by
 obtain⟨s,t,e,f,i⟩:=info_parts q8T;obtain⟨g,cap,w',z,D,b,a,m⟩:=run_append_lies (P:=prog) w 34 34 B 3 s _ 1 8 underlying34 t e f i rfl (by omega) (J1 A l.length C) l.length (nuL l) h ⟨y,0,none⟩ 1 1 [J I x] rfl (fun j v n=>by rcases j with _ | j <;> simp at n;subst n;simpa [Addr.add] using r) (by intro u hu;simp at hu;rcases hu with rfl;rfl) (by omega) (by simp only[maxLen];omega) (by omega) q _ rfl
 have c:z5W B w' (some ⟨g,0,none⟩) cap (l ++ [x]):=by
  unfold z5W;rw[List.length_append,nuL,List.map_append];exact D
 refine⟨g,cap,w',z,c,(World.ownsRow.lt c g rfl).1,m,⟨b.os,b.tape,b.output,b.size,fun k o=>b.block k (by omega) (fun E=>?_)⟩,fun k o d=>⟨?_,b.block k o d⟩⟩
 ·have:=(World.ownsRow.lt h k E.symm).1;omega
 ·rcases a with a | a
  ·rintro rfl;exact d a.symm
  ·omega
theorem z5u{ops:Array Oper}{rest:List Oper}{o:Oper}{a:Act}{w:World}{Q:Exit->Act->World->Prop}(f:o.guard=none)(b:o.type=34)(p q:Operand)
  (c:o.op=Op.call { callee:=Callee.builtin Builtin.append,args:=#[p,q],argTypes:=#[34,34] }) (B:Nat) (A:Option Addr) (C y:Nat) (W:List Int) (x:Int) (i:a.eval p=J1 A W.length C) (j:a.eval q=J1 (some ⟨y,0,none⟩) 1 1)
  (h:z5W B w A C W) (d:W.length<=60) (l:B<=w.heap.size) (m:w.cell? ⟨y,0,none⟩=some (J I x))
  (n:∀ g C' w',z5W B w' (some ⟨g,0,none⟩) C' (W ++ [x])/\B<=g/\g<w'.heap.size/\Below B w w'/\(∀ k,k<w.heap.size->some k≠(Value.slice A W.length C).ownBlock->g≠k/\w'.heap[k]?=w.heap[k]?)->wpList prog ops Q rest (a.put o.dst (J1 (some ⟨g,0,none⟩) (W.length+1) C')) w'):wpList prog ops Q (o :: rest) a w:=by
 refine wpList_plain f fun _ e=>?_;unfold Oper.wp;obtain⟨g,C',w',r,h1⟩:=j1k B w A C y W x h d l m
 simp[execOp,c,resolve,invoke,builtin,i,j,b,r,Result.andThen]
 exact e _ _ (n _ _ _ h1)
theorem z5Y{f:Func}{p q u:Tmp}(h:f.results=#[.cell p 32,.tmp q,.tmp u])(a:Array Value)(w:World)(g:Nat)(cs:Array Value)(v v2:Value)
  (i:a.getD p undef=J2 (some ⟨g,0,none⟩)) (hq:a.getD q undef=v) (hu:a.getD u undef=v2) (j:SAt w g cs) (b:cs.size=63) :
  (results f a).run prog w=.ok (.tuple #[J4 cs,v,v2]) w:=by
 have c:a[p]?.getD undef=J2 (some ⟨g,0,none⟩):=by simpa using i
 have d:a[q]?.getD undef=v:=by simpa using hq
 have e:a[u]?.getD undef=v2:=by simpa using hu
 simp[results,h,c,d,e,asAddr,run_loadVar_row w g 32 32 cs (0,0) _ j underlying32 rfl (by rw[z0l,b])]
theorem z2K{f:Func}{p q u:Tmp}(a:f.results=#[.cell p 32,.tmp q,.tmp u]){g:Nat}{wq:World}{d:Array Value}(R:SAt wq g d)(e:d.size=63)(s':St)(b v v2:Value)(Q:Ending->World->Prop)(h:Q (.returned (.tuple #[J4 (stC s' b),v,v2])) (wq.setCells g 0 (stC s' b).toList))(act:Act)
  (i:act.tmps.getD p undef=J2 (some ⟨g,0,none⟩)) (j:act.tmps.getD q undef=v) (c:act.tmps.getD u undef=v2) (hd:act.defers=[]) :
  bodyPost prog f Q Exit.ret act (wq.setCells g 0 (stC s' b).toList):=by
 have k:=R.z0C (ds:=stC s' b) (by rw[e];rfl)
 exact bodyPost_ret (v:=.tuple #[J4 (stC s' b),v,v2]) (z5Y a _ _ g _ _ _ i j c k rfl) hd h
theorem z0U{w:World}{b c e z n:Nat}{v:Value}{d:List Value}(h:w.ownsRow b e z v n d)(f:c<=b):w.ownsRow c e z v n d:=by
 refine⟨h.1,?_⟩
 rcases h.2 with i | ⟨g,cap,a,j,h2,h3⟩
 ·exact .inl i
 ·exact .inr ⟨g,cap,a,j,Nat.le_trans f h2,h3⟩
structure q3d(s:St)(ao:Option Addr)(c:Nat)(t:Int)(B bb:Nat)(w:World)(k:Nat)(A:Option Addr)(C:Nat)(A':Option Addr)(C':Nat)(wl:World):Prop where
 own9:z1k B wl A C (z0w t (s.W.take k))
 own10:z5W B wl A' C' (z0D t (s.W.take k))
 apart:∀ k',(Value.slice A (z0w t (s.W.take k)).length C).ownBlock=some k'->some k'≠(Value.slice A' (z0D t (s.W.take k)).length C').ownBlock
 S:SAt wl w.heap.size (stC s (J1 ao s.W.length c))
 R:SAt wl (w.heap.size+1) Z63
 bank:BAt wl bb (z2n t s.b (s.W.take k)).f0 (z2n t s.b (s.W.take k)).f1 (z2n t s.b (s.W.take k)).f2 (z2n t s.b (s.W.take k)).f3 (z2n t s.b (s.W.take k)).bo (z2n t s.b (s.W.take k)).wa (z2n t s.b (s.W.take k)).bu
 below:Bl w wl
 size:B<=wl.heap.size
theorem q3d.over{s:St}{ao:Option Addr}{c:Nat}{t:Int}{B bb:Nat}{w:World}{k:Nat}{A:Option Addr}{C:Nat}{A':Option Addr}{C':Nat}{wl w':World}(h:q3d s ao c t B bb w k A C A' C' wl)(b:w.heap.size<=wl.heap.size)(a:Bl wl w'):q3d s ao c t B bb w k A C A' C' w':=
 ⟨h.own9.over a,h.own10.over a,h.apart,h.S.later a h.S.lt,h.R.later a h.R.lt,h.bank.later a h.bank.lt,h.below.trans (a.mono b),Nat.le_trans h.size a.size⟩
theorem z4m{t:Int}{W:List Wt}{k:Nat}{x:Wt}(a:W[k]?=some x)(hd:z2O t x=false):(z0w t (W.take (k+1))).length=(z0w t (W.take k)).length+1/\(z0D t (W.take (k+1))).length=(z0D t (W.take k)).length:=by
 unfold z0D;rw[z0K a,z2M,z2u,if_neg (by simp[hd]),if_neg (by simp[hd]),List.length_append]
 exact⟨rfl,rfl⟩
theorem z9I{t:Int}{W:List Wt}{k:Nat}{x:Wt}(a:W[k]?=some x)(hd:z2O t x=true):(z0w t (W.take (k+1))).length=(z0w t (W.take k)).length/\(z0D t (W.take (k+1))).length=(z0D t (W.take k)).length+1:=by
 unfold z0D;rw[z0K a,z2M,z2u,if_pos hd,if_pos hd,List.length_map,List.length_map,List.length_append];exact⟨rfl,rfl⟩
theorem q3d.left{s:St}{ao:Option Addr}{c:Nat}{t:Int}{B bb:Nat}{w:World}{k:Nat}{A:Option Addr}{C:Nat}{A':Option Addr}{C':Nat}{wl w':World}(h:q3d s ao c t B bb w k A C A' C' wl){x:Wt}(e:s.W[k]?=some x)(hd:z2O t x=false)(f:bb<B)(p:w.heap.size+1<B){g D:Nat}
  (h1:z1k B w' (some ⟨g,0,none⟩) D (z0w t (s.W.take k) ++ [x])) (d:Below B wl w') (m:∀ k',k'<wl.heap.size->some k'≠(Value.slice A (z0w t (s.W.take k)).length C).ownBlock->g≠k'/\w'.heap[k']?=wl.heap[k']?):q3d s ao c t B bb w (k+1) (some ⟨g,0,none⟩) D A' C' w':=by
 have n:z0w t (s.W.take (k+1))=z0w t (s.W.take k) ++ [x]:=by rw[z0K e,z2M,if_neg (by simp[hd])]
 have j:z0D t (s.W.take (k+1))=z0D t (s.W.take k):=by unfold z0D;rw[z0K e,z2u,if_neg (by simp[hd])]
 have o:z2n t s.b (s.W.take (k+1))=z2n t s.b (s.W.take k):=by rw[z0K e,z3Z,if_neg (by simp[hd])]
 have l:∀ k',(Value.slice A' (z0D t (s.W.take k)).length C').ownBlock=some k'->g≠k'/\w'.heap[k']?=wl.heap[k']?:=fun k' a=>m k' (World.ownsRow.lt h.own10 k' a).2 fun i=>h.apart k' i.symm a.symm;refine⟨by rw[n];exact h1,by rw[j];exact z0n h.own10 fun k' a=>(l k' a).2,?_,(d.block _ (by omega)).trans h.S,(d.block _ (by omega)).trans h.R,by rw[o];exact (d.block _ f).trans h.bank,h.below.trans (d.mono (by omega)),Nat.le_trans h.size d.size⟩
 rw[j];intro k' a i;cases a;exact (l g i.symm).1 rfl
theorem q3d.paid{s:St}{ao:Option Addr}{c:Nat}{t:Int}{B bb:Nat}{w:World}{k:Nat}{A:Option Addr}{C:Nat}{A':Option Addr}{C':Nat}{wl w':World}(l:z1k B wl A C (z0w t (s.W.take k)))(h:∀ k',(Value.slice A (z0w t (s.W.take k)).length C).ownBlock=some k'->some k'≠(Value.slice A' (z0D t (s.W.take k)).length C').ownBlock)(p:SAt wl w.heap.size (stC s (J1 ao s.W.length c)))(q:SAt wl (w.heap.size+1) Z63)(a:BAt wl bb (z2n t s.b (s.W.take (k+1))).f0 (z2n t s.b (s.W.take (k+1))).f1 (z2n t s.b (s.W.take (k+1))).f2 (z2n t s.b (s.W.take (k+1))).f3 (z2n t s.b (s.W.take (k+1))).bo (z2n t s.b (s.W.take (k+1))).wa (z2n t s.b (s.W.take (k+1))).bu)(e:Bl w wl)(i:B<=wl.heap.size)
  {x:Wt} (m:s.W[k]?=some x) (hd:z2O t x=true) (j:bb<B) (y:w.heap.size+1<B) {g D:Nat}
  (h1:z5W B w' (some ⟨g,0,none⟩) D (z0D t (s.W.take k) ++ [x.num])) (f:Below B wl w') (r:∀ k',k'<wl.heap.size->some k'≠(Value.slice A' (z0D t (s.W.take k)).length C').ownBlock->g≠k'/\w'.heap[k']?=wl.heap[k']?):q3d s ao c t B bb w (k+1) A C (some ⟨g,0,none⟩) D w':=by
 have n:z0w t (s.W.take (k+1))=z0w t (s.W.take k):=by rw[z0K m,z2M,if_pos hd]
 have u:z0D t (s.W.take (k+1))=z0D t (s.W.take k) ++ [x.num]:=by unfold z0D;rw[z0K m,z2u,if_pos hd,List.map_append];rfl
 have o:∀ k',(Value.slice A (z0w t (s.W.take k)).length C).ownBlock=some k'->g≠k'/\w'.heap[k']?=wl.heap[k']?:=fun k' d=>r k' (World.ownsRow.lt l k' d).2 (h k' d);refine⟨by rw[n];exact z0n l fun k' d=>(o k' d).2,by rw[u];exact h1,?_,(f.block _ (by omega)).trans p,(f.block _ (by omega)).trans q,(f.block _ j).trans a,e.trans (f.mono (by omega)),Nat.le_trans i f.size⟩
 rw[n];intro k' d v;cases v;exact (o g d).1 rfl
theorem q5f(s:St)(ao:Option Addr)(sb so c:Nat)(t:Int)(w:World)(hW:z1R w ao sb so s.W)(hg:z0j s=true) :
  Calls prog 31 #[J4 (stC s (J1 ao s.W.length c)),.int .i64 t] w fun e w'=>∃ A C A' C',e=.returned (.tuple #[J4 (stC (z3e s t) (J1 A (z3e s t).W.length C)),J1 A' (z0D t s.W).length C',.int .i64 0])/\z1k w.heap.size w' A C (z3e s t).W/\z5W w.heap.size w' A' C' (z0D t s.W)/\Bl w w':=by
 have SS:=(SAt.new w (stC s (J1 ao s.W.length c))).alloc (J5 Z63 32);have RR:=SAt.new2 w (J5 (stC s (J1 ao s.W.length c)) 32) Z63;have HB:Hid (Bl w ((w.alloc (J5 (stC s (J1 ao s.W.length c)) 32)).alloc (J5 Z63 32))):=(znw w _).alloc (by simp) _
 have HW:=J6 hW;have hG:=fun w h=>z5M s ao sb so c w h;have e3:s.W.length<=60:=((z0S s).1 hg).2.2.2.1;have a2:=fun k x hx hd w=>(z9E hg t (k:=k) (x:=x) hx hd) ▸ q7S (z2n t s.b (s.W.take k)) x.d x.amt w;rw[hg]at hG;clear hW
 go_enter func31,ntmps31
 go_upto_region 1 with fail
 change Code.wp prog _ _ _ ((w.alloc (J5 (stC s (J1 ao s.W.length c)) 32)).alloc (J5 Z63 32));generalize (w.alloc (J5 (stC s (J1 ao s.W.length c)) 32)).alloc (J5 Z63 32)=w0 at *;apply wp_region_lit;refine wpList_load_mid rfl 32 _ rfl _ 0 rfl _ _ SS.range underlying32 rfl (by rw[z0l];rfl) ?_
 go_upto_region 3 with (go_at_call 33;refine (hG _ (by exact HW.out.over HB.out)).mono ?_;rintro e w1⟨rfl,h1⟩)
 have a5:=J6 (zbt HB.out h1);have S1:=SS.later h1 SS.lt;have R1:=RR.later h1 RR.lt;have e9:w.heap.size+1<w1.heap.size:=R1.lt;have e4:w.heap.size<w1.heap.size:=by omega
 clear SS RR h1 HB hG;obtain⟨x0,x1,x2,x3,x4,x5,x6,_,_⟩:=z0g S1
 go_upto_region 4 with fail
 have B2:BAt (w1.alloc (J5 #[.int .i64 s.b.f0,.int .i64 s.b.f1,.int .i64 s.b.f2,.int .i64 s.b.f3,.int .i64 s.b.bo,.int .i64 s.b.wa,.int .i64 s.b.bu] 24)) w1.heap.size s.b.f0 s.b.f1 s.b.f2 s.b.f3 s.b.bo s.b.wa s.b.bu:=heap_alloc_new _ _;have S2:=S1.alloc (J5 #[.int .i64 s.b.f0,.int .i64 s.b.f1,.int .i64 s.b.f2,.int .i64 s.b.f3,.int .i64 s.b.bo,.int .i64 s.b.wa,.int .i64 s.b.bu] 24);have R2:=R1.alloc (J5 #[.int .i64 s.b.f0,.int .i64 s.b.f1,.int .i64 s.b.f2,.int .i64 s.b.f3,.int .i64 s.b.bo,.int .i64 s.b.wa,.int .i64 s.b.bu] 24);have a6:=J6 (a5.out.alloc (by omega) (J5 #[.int .i64 s.b.f0,.int .i64 s.b.f1,.int .i64 s.b.f2,.int .i64 s.b.f3,.int .i64 s.b.bo,.int .i64 s.b.wa,.int .i64 s.b.bu] 24))
 generalize w1.alloc (J5 #[.int .i64 s.b.f0,.int .i64 s.b.f1,.int .i64 s.b.f2,.int .i64 s.b.f3,.int .i64 s.b.bo,.int .i64 s.b.wa,.int .i64 s.b.bu] 24)=w2 at *;clear S1 R1 a5 x0 x1 x2 x3 x4 x5 x6;have f7:w1.heap.size<w2.heap.size:=B2.lt;have e5:w.heap.size<w2.heap.size:=by omega
 have x7:=(z0g S2).2.2.2.2.2.2.2.1;have a7:Hid (q3d s ao c t w2.heap.size w1.heap.size w 0 none 0 none 0 w2):=⟨⟨rfl,.inl ⟨rfl,rfl⟩⟩,⟨rfl,.inl ⟨rfl,rfl⟩⟩,fun k' h=>(by cases h),S2,R2,B2,a6.out,Nat.le_refl _⟩
 clear S2 R2 B2 a6;have H:=HW.out.adr
 go_upto_region 7 with fail
 go_loopw [9,10,22] (fun l9 d6 i wl=>∃ (k:Nat) (A:Option Addr) (C:Nat) (A':Option Addr) (C':Nat),k<=s.W.length/\i=.int .i64 (k:Int)/\l9=J1 A (z0w t (s.W.take k)).length C/\d6=J1 A' (z0D t (s.W.take k)).length C'/\Hid (q3d s ao c t w2.heap.size w1.heap.size w k A C A' C' wl)) (fun _ _ i _=>s.W.length - (intOf i).toNat)
 case atStart=>exact⟨0,none,0,none,0,Nat.zero_le _,rfl,rfl,rfl,a7⟩
 case round =>
  obtain⟨k,A,C,A',C',G,rfl,rfl,rfl,z⟩:=hrel;have f8:=z.out.size;clear a7 x7
  by_cases d7:k<s.W.length
  ·obtain⟨x,hx,_⟩:=drop_at d7;obtain⟨c0,c1,c2,c3,K,L,M,N⟩:=(HW.out.over z.out.below).cell k x hx;obtain rfl:=H (by omega)
   have h9:(z0w t (s.W.take k)).length<=60:=Nat.le_trans (List.length_filter_le _ _) (by rw[List.length_take];omega)
   have f9:(z0D t (s.W.take k)).length<=60:=by unfold z0D;rw[List.length_map];exact Nat.le_trans (List.length_filter_le _ _) (by rw[List.length_take];omega)
   have hH:=q1p x;have X:=a2 k x hx;have HX:=J6 hx;clear H a2 hx;have Y:YAt (wr.alloc (J5 #[.int .i64 x.num,.int .i64 x.d,.int .i64 x.v,.int .i64 x.amt,.int .i64 x.hei,.int .i64 x.due,.int .i64 x.h0,.int .i64 x.h1] 127)) wr.heap.size x:=heap_alloc_new _ _;have P:=J6 (z.out.over (by omega) (znw wr (J5 #[.int .i64 x.num,.int .i64 x.d,.int .i64 x.v,.int .i64 x.amt,.int .i64 x.hei,.int .i64 x.due,.int .i64 x.h0,.int .i64 x.h1] 127)))
   have g0:wr.heap.size<(wr.alloc (J5 #[.int .i64 x.num,.int .i64 x.d,.int .i64 x.v,.int .i64 x.amt,.int .i64 x.hei,.int .i64 x.due,.int .i64 x.h0,.int .i64 x.h1] 127)).heap.size:=Y.lt
   by_cases a3:x.due<=t
   ·by_cases B:x.h0=0/\x.h1=0
    ·have Z:Hid (z2O t x=true):=by show z2O t x=true;simp[z2O,a3,B]
     have a8:=X Z.out;rw[decide_eq_true B]at hH;clear X B
     go_upto_region 9 with fail
     generalize wr.alloc (J5 #[.int .i64 x.num,.int .i64 x.d,.int .i64 x.v,.int .i64 x.amt,.int .i64 x.hei,.int .i64 x.due,.int .i64 x.h0,.int .i64 x.h1] 127)=wq at *;clear c0 c1 c2 c3 K L M N z;obtain⟨c0,c1,c2,c3,K,L,M,N⟩:=Y.cells;have a9:=P.out.size;generalize b7:z2n t s.b (s.W.take k)=bk0 at *;generalize b9:z2n t s.b (s.W.take (k+1))=bk1 at *
     go_upto_region 12 with (first
      | (go_at_call 68;refine (hH _).mono ?_;rintro e w5⟨rfl,h5⟩;have a0:=J6 (P.out.over (by omega) h5);have Y5:=Y.later h5 Y.lt;clear c0 c1 c2 c3 K L M N;obtain⟨c0,c1,c2,c3,K,L,M,N⟩:=Y5.cells;have B5:=a0.out.bank;rw[b7]at B5;obtain⟨b0,b1,b2,b3,b4,b5,b6⟩:=B5.cells;have d8:=Y5.lt;have e6:=B5.lt;clear h5 B5)
      | (go_at_call 69;refine (a8 _).mono ?_;rintro e w6⟨rfl,h6⟩;have n:=J6 (a0.out.over (by omega) h6);have Y6:=Y5.later h6 Y5.lt;have B6:=n.out.bank;clear b0 b1 b2 b3 b4 b5 b6;obtain⟨b0,b1,b2,b3,b4,b5,b6⟩:=B6.cells;obtain⟨f0,f1,f2,f3,f4,f5,f6⟩:=B6.frees;have g1:=Y6.lt;have e7:=B6.lt;clear h6))
     change Code.wp prog _ _ _ (z3F w6 w1.heap.size bk1);have a:But w1.heap.size w6 (z3F w6 w1.heap.size bk1):=(((((((But.refl _ _).set 0 _).set 1 _).set 2 _).set 3 _).set 4 _).set 5 _).set 6 _;have B7:BAt (z3F w6 w1.heap.size bk1) w1.heap.size bk1.f0 bk1.f1 bk1.f2 bk1.f3 bk1.bo bk1.wa bk1.bu:=BAt.z2C B6 _ _ _ _ _ _ _;have S7:=a.z0I (by omega) n.out.S
     have R7:=a.z0I (by omega) n.out.R
     have Y7:YAt (z3F w6 w1.heap.size bk1) wr.heap.size x:=(a.block _ (by omega)).trans Y6
     have E:Hid (z1k w2.heap.size (z3F w6 w1.heap.size bk1) A C (z0w t (s.W.take k))):=z0n n.out.own9 fun k' G=>a.block _ (by have:=(World.ownsRow.lt n.out.own9 k' G).1;omega)
     have o:Hid (z5W w2.heap.size (z3F w6 w1.heap.size bk1) A' C' (z0D t (s.W.take k))):=z0n n.out.own10 fun k' G=>a.block _ (by have:=(World.ownsRow.lt n.out.own10 k' G).1;omega)
     have d9:=J6 (n.out.below.trans (a.below (by omega)))
     have e0:=J6 n.out.apart;clear c0 c1 c2 c3 K L M N b0 b1 b2 b3 b4 b5 b6 f0 f1 f2 f3 f4 f5 f6 a n Y6 B6 b7;generalize z3F w6 w1.heap.size bk1=w7 at *;have c0:=Y7.cells.1;have g2:=Y7.lt;have c8:w2.heap.size<=w7.heap.size:=by omega
     have c9:=J6 S7;have d0:=J6 R7;have Q:=J6 B7;rw[<- b9]at Q;clear S7 R7 B7 b9
     go_wp2_with (at_builtin;refine z5u rfl rfl _ _ rfl w2.heap.size A' C' w7.heap.size (z0D t (s.W.take k)) x.num rfl rfl (by exact o.out.over (znw w7 _)) (by omega) (by simp;omega) (by rw[World.cell?_alloc_at _ _ _ _ rfl];rfl) ?_;rintro g D d1⟨f,d2,d3,l,m⟩;have p:=J6 f;have q:=J6 l;have r:=J6 m;clear f l m)
     have F:=(Below.refl w7.heap.size w7).alloc (Nat.le_refl _) (J5 #[.int .i64 x.num] 3);have T:=J6 (q3d.paid (E.out.over F) e0.out (c9.out.later F c9.out.lt) (d0.out.later F d0.out.lt) (Q.out.later F Q.out.lt) (d9.out.trans (F.mono (by omega))) (Nat.le_trans c8 F.size) HX.out Z.out (by omega) (by omega) p.out q.out r.out)
     have y:=z9I HX.out Z.out;exact⟨⟨k+1,A,C,some ⟨g,0,none⟩,D,by omega,by go_num,by rw[y.1],by rw[y.2],T⟩,by simp[intOf];omega⟩
    ·have Z:Hid (z2O t x=false):=by show z2O t x=false;simp[z2O,a3,B]
     rw[decide_eq_false B]at hH
     go_upto_region 9 with fail
     generalize wr.alloc (J5 #[.int .i64 x.num,.int .i64 x.d,.int .i64 x.v,.int .i64 x.amt,.int .i64 x.hei,.int .i64 x.due,.int .i64 x.h0,.int .i64 x.h1] 127)=wp at *;clear c0 c1 c2 c3 K L M N z X B;obtain⟨c0,c1,c2,c3,K,L,M,N⟩:=Y.cells;have a9:=P.out.size
     go_upto_region 10 with (go_at_call 68;refine (hH _).mono ?_;rintro e wq⟨rfl,h5⟩;have a0:=J6 (P.out.over (by omega) h5);have Y5:=Y.later h5 Y.lt;clear h5)
     clear c0 c1 c2 c3 K L M N P Y;obtain⟨c0,c1,c2,c3,K,L,M,N⟩:=Y5.cells;have P:=J6 a0.out;have d8:=Y5.lt
     go_wp2_with (at_builtin;refine z2L rfl rfl _ _ rfl w2.heap.size A C wq.heap.size (z0w t (s.W.take k)) x rfl rfl (by exact P.out.own9.over (znw wq _)) (by omega) (by simp;omega) (by exact fun j u hj=>z7S wq x _ j u hj) ?_;rintro g D d1⟨f,d2,d3,l,m⟩;have p:=J6 f;have q:=J6 l;have r:=J6 m;clear f l m)
     have T:=J6 ((P.out.over (by omega) (znw wq (J5 #[.int .i64 x.num,.int .i64 x.d,.int .i64 x.v,.int .i64 x.amt,.int .i64 x.hei,.int .i64 x.due,.int .i64 x.h0,.int .i64 x.h1] 127))).left HX.out Z.out (by omega) (by omega) p.out q.out r.out)
     have y:=z4m HX.out Z.out;exact⟨⟨k+1,some ⟨g,0,none⟩,D,A',C',by omega,by go_num,by rw[y.1],by rw[y.2],T⟩,by simp[intOf];omega⟩
   ·have Z:Hid (z2O t x=false):=by show z2O t x=false;simp[z2O,a3]
    go_upto_region 9 with fail
    generalize wr.alloc (J5 #[.int .i64 x.num,.int .i64 x.d,.int .i64 x.v,.int .i64 x.amt,.int .i64 x.hei,.int .i64 x.due,.int .i64 x.h0,.int .i64 x.h1] 127)=wq at *;clear c0 c1 c2 c3 K L M N z X hH;obtain⟨c0,c1,c2,c3,K,L,M,N⟩:=Y.cells;have a9:=P.out.size
    go_wp2_with (at_builtin;refine z2L rfl rfl _ _ rfl w2.heap.size A C wq.heap.size (z0w t (s.W.take k)) x rfl rfl (by exact P.out.own9.over (znw wq _)) (by omega) (by simp;omega) (by exact fun j u hj=>z7S wq x _ j u hj) ?_;rintro g D d1⟨f,d2,d3,l,m⟩;have p:=J6 f;have q:=J6 l;have r:=J6 m;clear f l m)
    have T:=J6 ((P.out.over (by omega) (znw wq (J5 #[.int .i64 x.num,.int .i64 x.d,.int .i64 x.v,.int .i64 x.amt,.int .i64 x.hei,.int .i64 x.due,.int .i64 x.h0,.int .i64 x.h1] 127))).left HX.out Z.out (by omega) (by omega) p.out q.out r.out)
    have y:=z4m HX.out Z.out;exact⟨⟨k+1,some ⟨g,0,none⟩,D,A',C',by omega,by go_num,by rw[y.1],by rw[y.2],T⟩,by simp[intOf];omega⟩
  ·obtain rfl:k=s.W.length:=by omega
   clear a2 H;rw[List.take_length];have U:=J6 z.out.S;have HR:=J6 z.out.R;have a4:=J6 z.out.bank;have E:=J6 z.out.own9;have o:=J6 z.out.own10;have d4:=J6 z.out.below;clear z;rw[List.take_length]at a4 E o;obtain⟨x0,x1,x2,x3,x4,x5,x6,x7,_⟩:=z0g U.out;obtain⟨b0,b1,b2,b3,b4,b5,b6⟩:=a4.out.cells;have f0:=U.out.free 0;have f1:=U.out.free 1;have f2:=U.out.free 2;have f3:=U.out.free 3;have f4:=U.out.free 4;have f5:=U.out.free 5;have f6:=U.out.free 6;have e1:=U.out.free 61;have g3:w1.heap.size≠w.heap.size:=by omega
   have g5:w.heap.size<wr.heap.size:=by omega
   have e8:w1.heap.size<wr.heap.size:=by omega
   generalize d5:z2n t s.b s.W=bk at *
   go_upto_region 17 with fail
   change Code.wp prog _ _ _ ((z3F wr w.heap.size bk).setCell ⟨w.heap.size,61,none⟩ (J1 A (z0w t s.W).length C));have a:But w.heap.size wr ((z3F wr w.heap.size bk).setCell ⟨w.heap.size,61,none⟩ (J1 A (z0w t s.W).length C)):=((((((((But.refl _ _).set 0 _).set 1 _).set 2 _).set 3 _).set 4 _).set 5 _).set 6 _).set 61 _;have S8:=(z4a U.out bk).set 61 (J1 A (z0w t s.W).length C);rw[z6G]at S8;have R8:=a.z0I (by omega) HR.out
   have a1:Hid (z1k w2.heap.size ((z3F wr w.heap.size bk).setCell ⟨w.heap.size,61,none⟩ (J1 A (z0w t s.W).length C)) A C (z0w t s.W)):=z0n E.out fun k' G=>a.block _ (by have:=(World.ownsRow.lt E.out k' G).1;omega)
   have V:Hid (z5W w2.heap.size ((z3F wr w.heap.size bk).setCell ⟨w.heap.size,61,none⟩ (J1 A (z0w t s.W).length C)) A' C' (z0D t s.W)):=z0n o.out fun k' G=>a.block _ (by have:=(World.ownsRow.lt o.out k' G).1;omega)
   have e2:=J6 (d4.out.trans (a.below (Nat.le_refl _)));generalize (z3F wr w.heap.size bk).setCell ⟨w.heap.size,61,none⟩ (J1 A (z0w t s.W).length C)=w8 at *;clear x0 x1 x2 x3 x4 x5 x6 x7 b0 b1 b2 b3 b4 b5 b6 f0 f1 f2 f3 f4 f5 f6 e1 a U HR a4 E o d4
   have S9:SAt w8 w.heap.size (stC (z3e s t) (J1 A (z0w t s.W).length C)):=by
    have e:stC (z3e s t) (J1 A (z0w t s.W).length C)=stC { s with b:=bk } (J1 A (z0w t s.W).length C):=by rw[<- d5];rfl
    rw[e];exact S8
   clear S8 d5;apply wp_region_lit;refine wpList_load_mid rfl 32 _ rfl _ 0 rfl _ _ S9.range underlying32 rfl (by rw[z0l];rfl) ?_
   refine z1O rfl _ rfl ?_;refine wpList_store_mid rfl 32 _ _ rfl _ 0 (stC (z3e s t) (J1 A (z0w t s.W).length C)) rfl rfl (R8.there 0 _ (by rw[z0p,z0d];omega)) (by rw[z0l];rfl) (z0q _ _ _ _) ?_
   go_wp2;exact z2K results31 R8 rfl (z3e s t) _ _ _ _ ⟨A,C,A',C',rfl,z0U (z0n a1.out fun k' G=>z0f (by have:=(World.ownsRow.lt a1.out k' G).1;omega) _ _ _) (by omega),z0U (z0n V.out fun k' G=>z0f (by have:=(World.ownsRow.lt V.out k' G).1;omega) _ _ _) (by omega),z0b (by omega) _ _ _ e2.out⟩ _ rfl rfl rfl rfl
end
end Go.Proofs.YtjghbciepinofaaGreat
