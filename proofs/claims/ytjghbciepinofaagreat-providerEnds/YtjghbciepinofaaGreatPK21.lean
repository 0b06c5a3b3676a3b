/- Parts of the proof. -/
import Derived.Test.YtjghbciepinofaaGreatPL
import Derived.Test.YtjghbciepinofaaGreatPK17
set_option maxRecDepth 100000
set_option maxHeartbeats 16000000
namespace Go.Proofs.YtjghbciepinofaaGreat
open Go.Proofs.Tryz
open Value renaming int->J,slice->J1,pointer->J2,bool->J3,agg->J4
open IntKind renaming i64->I
open Obj renaming cells->J5
namespace Pv
open Go.RowKit
structure Lk where
 on:Bool
 gone:Bool
 base:Int
 told:List (Int×Int)
 fresh:Bool
 done:List Int
 out:Ln.Line
 h0:Int
 h1:Int
 h2:Int
 h3:Int
structure Pr where
 h:Int
 t:Int
 s:St
 set:List (Int×Int)
 L:Nat->Lk
 ml:Int
 mn:Int
 q:List (Int×Pkt)
structure LkV where
 told:Value
 done:Value
 said:Value
 due:Value
structure PrV where
 ws:Value
 set:Value
 l:Nat->LkV
 q:Value
def lkL(x:Lk)(v:LkV):List Value:=[J3 x.on,J3 x.gone,J I x.base,v.told,J3 x.fresh,v.done,v.said,v.due,J I x.out.g,J3 x.out.cl,J I x.h0,J I x.h1,J I x.h2,J I x.h3]
def prC(p:Pr)(v:PrV):Array Value:=(([J I p.h,J I p.t]:List Value) ++ ((stC p.s v.ws).toList ++ (v.set :: (lkL (p.L 0) (v.l 0) ++ (lkL (p.L 1) (v.l 1) ++ [J I p.ml,J I p.mn,v.q]))))).toArray
theorem z0c(p:Pr)(v:PrV):(prC p v).size=97:=rfl
def akL(x:Int×Pkt)(y:Value×Value):List Value:=[J I x.1,J I x.2.k,J I x.2.i,J I x.2.v,J I x.2.n,y.1,y.2]
def quL:List (Int×Pkt)->List (Value×Value)->List Value
 | x :: q,y :: z=>akL x y ++ quL q z
 | _,_=>[]
def q4T(P:Nat->Prop)(w:World)(v:Value)(q:List (Int×Pkt)):Prop:=
 ∃ z:List (Value×Value),z.length=q.length/\Rep P w v 7 80 (quL q z)/\∀ (i:Nat) (x:Int×Pkt) (y:Value×Value),q[i]?=some x->z[i]?=some y->Rep P w y.1 2 16 (pwC x.2.S)/\Rep P w y.2 1 8 (inC x.2.D)
structure z5Z(P:Nat->Prop)(w:World)(x:Lk)(v:LkV):Prop where
 told:Rep P w v.told 2 16 (pwC x.told)
 done:Rep P w v.done 1 8 (inC x.done)
 said:z1I P w v.said 1 16 (txC x.out.S)
 due:z1I P w v.due 1 8 (inC x.out.D)
structure PIn(P:Nat->Prop)(w:World)(p:Pr)(v:PrV):Prop where
 ws:Rep P w v.ws 8 64 (wsL p.s.W)
 set:Rep P w v.set 2 16 (pwC p.set)
 lk:∀ c,c<2->z5Z P w (p.L c) (v.l c)
 q:q4T P w v.q p.q
section
variable {P P':Nat->Prop} {w w':World}
theorem q4T.mono{v:Value}{q:List (Int×Pkt)}(h:q4T P w v q)(a:∀ b,b<w.heap.size->P b->P' b):q4T P' w v q:=by
 obtain⟨z,h1,h2,h3⟩:=h;exact⟨z,h1,h2.mono a,fun i x y c d=>⟨(h3 i x y c d).1.mono a,(h3 i x y c d).2.mono a⟩⟩
theorem q4T.keep{v:Value}{q:List (Int×Pkt)}(h:q4T P w v q)(a:∀ b,P b->b<w.heap.size->w'.heap[b]?=w.heap[b]?):q4T P w' v q:=by
 obtain⟨z,h1,h2,h3⟩:=h;exact⟨z,h1,h2.keep a,fun i x y c d=>⟨(h3 i x y c d).1.keep a,(h3 i x y c d).2.keep a⟩⟩
theorem z5Z.mono{x:Lk}{v:LkV}(h:z5Z P w x v)(a:∀ b,b<w.heap.size->P b->P' b):z5Z P' w x v:=⟨h.told.mono a,h.done.mono a,h.said.mono a,h.due.mono a⟩
theorem z5Z.keep{x:Lk}{v:LkV}(h:z5Z P w x v)(a:∀ b,P b->b<w.heap.size->w'.heap[b]?=w.heap[b]?):z5Z P w' x v:=⟨h.told.keep a,h.done.keep a,h.said.keep a,h.due.keep a⟩
theorem PIn.mono{p:Pr}{v:PrV}(h:PIn P w p v)(a:∀ b,b<w.heap.size->P b->P' b):PIn P' w p v:=⟨h.ws.mono a,h.set.mono a,fun c d=>(h.lk c d).mono a,h.q.mono a⟩
theorem PIn.keep{p:Pr}{v:PrV}(h:PIn P w p v)(a:∀ b,P b->b<w.heap.size->w'.heap[b]?=w.heap[b]?):PIn P w' p v:=⟨h.ws.keep a,h.set.keep a,fun c d=>(h.lk c d).keep a,h.q.keep a⟩
theorem PIn.over{p:Pr}{v:PrV}(h:PIn P w p v)(c:Bl w w'):PIn P w' p v:=h.keep fun b _ a=>c.block b a
end
end Pv
namespace Pv
open Go.RowKit
section
variable {P:Nat->Prop} {w w':World} {v:Value} {sz bts:Nat} {cs:List Value}
theorem Rep.z8v{W:List Wt}(h:Rep P w v 8 64 (wsL W)):∃ A C b o,v=J1 A W.length C/\z1R w A b o W/\(A=none->C=0)/\(0<W.length->P b):=by
 obtain⟨A,n,C,h1,h2,h3,c,d⟩:=h;rw[z2m]at h2;have e:n=W.length:=by omega
 subst e
 rcases Nat.eq_zero_or_pos W.length with h0 | h0
 ·refine⟨A,C,0,0,h1,⟨fun h=>by omega,h3,fun i x a=>?_⟩,c.1,fun h=>by omega⟩
  have:=(List.getElem?_eq_some_iff.1 a).1;omega
 ·obtain⟨b,off,rfl,f,_,g⟩:=d h0;refine⟨_,C,b,off,h1,⟨fun _=>rfl,h3,fun i x a=>?_⟩,c.1,fun _=>f⟩
  have k:∀ j,j<8->∀ u,(wtL x)[j]?=some u->w.cell? ⟨b,off+i * 8+j,none⟩=some u:=fun j l u hu=>by
   rw[Nat.add_assoc];exact g _ _ ((z4D W i x j a l).trans hu)
  exact⟨k 0 (by omega) _ rfl,k 1 (by omega) _ rfl,k 2 (by omega) _ rfl,k 3 (by omega) _ rfl,k 4 (by omega) _ rfl,k 5 (by omega) _ rfl,k 6 (by omega) _ rfl,k 7 (by omega) _ rfl⟩
end
end Pv
namespace Pv
open Go.RowKit
noncomputable def j1m:Code:=z8O [1,1,1,0,1,9,9,1,1,0,9,1,1] (f16.body.getD .skip)
structure Lk4(B:Nat)(w:World)(x:Lk)(T D S U:Value):Prop where
 told:Rep (fun b=>B<=b) w T 2 16 (pwC x.told)
 done:Rep (fun b=>B<=b) w D 1 8 (inC x.done)
 said:Rep (fun b=>B<=b) w S 1 16 (txC x.out.S)
 due:Rep (fun b=>B<=b) w U 1 8 (inC x.out.D)
set_option maxRecDepth 1000000 in
theorem q9J(g o:Nat)(x:Lk)(v:LkV)(P:Nat->Prop)(wl:World)(y:z5Z P wl x v)(l:g<wl.heap.size)
  (c3:wl.cell? ⟨g,o+3,none⟩=some v.told) (c5:wl.cell? ⟨g,o+5,none⟩=some v.done) (m:wl.cell? ⟨g,o+6,none⟩=some v.said) (c7:wl.cell? ⟨g,o+7,none⟩=some v.due) (c8:wl.cell? ⟨g,o+8,none⟩=some (J I x.out.g)) (c9:wl.cell? ⟨g,o+9,none⟩=some (J3 x.out.cl))
  (hz:∀ k,k<14->wl.frozen? ⟨g,o+k,none⟩=false) (v0 v1 v2 v3 v5 v6 v7 v8 v9 A B C E F G H L M N R V e0 e1 e2 e3 e4 e5 e6 e7 e8 e9 f4 f5 f6 f7 f8 f9 g0 g1 g2 g3 g5 g6 g8 g9 W Y Z a0 a1 a2 a3 a4 a5 a6 a7 a8 a9 b4 b9 c4 d0 d1 d2 d3 d4:Value) (Q:Exit->Act->World->Prop)
  (hQ:∀ (T D S U:Value) (h4 h5 h6 h7 h8 h9 i1 i2 i3 i4 i5 i6 i7 i8 i9 j1 j2 j3 j4 j5 j6 j7 j8 j9:Value) (w5:World),Bl wl w5->Lk4 wl.heap.size w5 x T D S U->Q .normal ⟨List.toArray (v0 :: v1 :: v2 :: v3 :: (J2 (some ⟨g,o,none⟩)) :: v5 :: v6 :: v7 :: v8 :: v9 :: A :: B :: C :: E :: F :: G :: H :: L :: M :: N :: R :: V :: (h4) :: (h5) :: (h6) :: (h7) :: (h8) :: (h9) :: (i1) :: (i2) :: (i3) :: (i4) :: (i5) :: (i6) :: (i7) :: (i8) :: (i9) :: (j1) :: (j2) :: (j3) :: (j4) :: (j5) :: (j6) :: (j7) :: (j8) :: (j9) :: W :: Y :: Z :: a0 :: a1 :: a2 :: a3 :: a4 :: a5 :: a6 :: a7 :: a8 :: a9 :: b4 :: b9 :: c4 :: d0 :: d1 :: d2 :: d3 :: d4 :: []),[]⟩ ((((((w5.setCell ⟨g,o+3,none⟩ T).setCell ⟨g,o+5,none⟩ D).setCell ⟨g,o+6,none⟩ S).setCell ⟨g,o+7,none⟩ U).setCell ⟨g,o+8,none⟩ (J I x.out.g)).setCell ⟨g,o+9,none⟩ (J3 x.out.cl))) :
  Code.wp prog j1m Q ⟨List.toArray (v0 :: v1 :: v2 :: v3 :: (J2 (some ⟨g,o,none⟩)) :: v5 :: v6 :: v7 :: v8 :: v9 :: A :: B :: C :: E :: F :: G :: H :: L :: M :: N :: R :: V :: e0 :: e1 :: e2 :: e3 :: e4 :: e5 :: e6 :: e7 :: e8 :: e9 :: f4 :: f5 :: f6 :: f7 :: f8 :: f9 :: g0 :: g1 :: g2 :: g3 :: g5 :: g6 :: g8 :: g9 :: W :: Y :: Z :: a0 :: a1 :: a2 :: a3 :: a4 :: a5 :: a6 :: a7 :: a8 :: a9 :: b4 :: b9 :: c4 :: d0 :: d1 :: d2 :: d3 :: d4 :: []),[]⟩ wl:=by
 obtain⟨i0,hi,k0,k1,k2⟩:=info_parts q4H;obtain⟨j0,hj,k3,k4,k5⟩:=info_parts q9e;obtain⟨vt,vd,k6,vu⟩:=v;have n:Rep P wl vt 2 16 (pwC x.told):=y.told;have q:Rep P wl vd 1 8 (inC x.done):=y.done;have d5:z1I P wl k6 1 16 (txC x.out.S):=y.said;have d6:z1I P wl vu 1 8 (inC x.out.D):=y.due;obtain⟨At,Ct,rfl,st,nt,-,-⟩:=n.open (z0r _) (by decide)
 obtain⟨Ad,r,rfl,sd,nd,-,-⟩:=q.open (z0M _) (by decide)
 obtain⟨A1,C1,A2,C2,sb,so,db,dO,rfl,rfl,hL,-,-⟩:=z1I.line d5 d6;have HK:=J6 hQ;dsimp only at c3 c5 m c7
 have hF:∀ wx,Bl wl wx->wx.cell? ⟨g,o+3,none⟩=some (J1 At x.told.length Ct)/\wx.cell? ⟨g,o+5,none⟩=some (J1 Ad x.done.length r)/\wx.cell? ⟨g,o+6,none⟩=some (J1 A1 x.out.S.length C1)/\wx.cell? ⟨g,o+7,none⟩=some (J1 A2 x.out.D.length C2)/\wx.cell? ⟨g,o+8,none⟩=some (J I x.out.g)/\wx.cell? ⟨g,o+9,none⟩=some (J3 x.out.cl):=fun wx h =>
  ⟨(h.cell (p:=⟨g,o+3,none⟩) l).trans c3,(h.cell (p:=⟨g,o+5,none⟩) l).trans c5,(h.cell (p:=⟨g,o+6,none⟩) l).trans m,(h.cell (p:=⟨g,o+7,none⟩) l).trans c7,(h.cell (p:=⟨g,o+8,none⟩) l).trans c8,(h.cell (p:=⟨g,o+9,none⟩) l).trans c9⟩
 have bT:0+x.told.length<=maxLen:=by unfold maxLen;omega
 have bD:0+x.done.length<=maxLen:=by unfold maxLen;omega
 clear hQ c3 c5 m c7 c8 c9
 conv=>arg 2;whnf
 refine wp_region_noPanic ?_;have a:Bl wl wl.drew:=(Below.refl _ wl).drew;refine O.z3J (c:=17) (S:=fun wx=>Bl wl wx) (by kernel_rfl) ?_
 refine O.z0R (i:=0) (v:=J2 (some ⟨g,o,none⟩)) (some 22) rfl rfl (by kernel_rfl) (by kernel_rfl) (by kernel_rfl) (by decide) (fun _ _ _ h=>h) (Or.inl ⟨by rfl,?_⟩) a ?_
 ·intro wx;go_simp
 simp only[O.pp,O.pb,O.pc];refine O.z0R (i:=1) (v:=J2 (some ⟨g,o,none⟩)) (some 23) rfl rfl (by kernel_rfl) (by kernel_rfl) (by kernel_rfl) (by decide) (fun _ _ _ h=>h) (Or.inl ⟨by rfl,?_⟩) a ?_
 ·intro wx;go_simp
 simp only[O.pp,O.pb,O.pc];refine O.z0R (i:=2) (v:=J2 (some ⟨g,o,none⟩)) (some 24) rfl rfl (by kernel_rfl) (by kernel_rfl) (by kernel_rfl) (by decide) (fun _ _ _ h=>h) (Or.inl ⟨by rfl,?_⟩) a ?_
 ·intro wx;go_simp
 simp only[O.pp,O.pb,O.pc];refine O.z0R (i:=3) (v:=J2 (some ⟨g,o,none⟩)) (some 25) rfl rfl (by kernel_rfl) (by kernel_rfl) (by kernel_rfl) (by decide) (fun _ _ _ h=>h) (Or.inl ⟨by rfl,?_⟩) a ?_
 ·intro wx;go_simp
 simp only[O.pp,O.pb,O.pc];refine O.z0R (i:=4) (v:=J2 (some ⟨g,o,none⟩)) (some 26) rfl rfl (by kernel_rfl) (by kernel_rfl) (by kernel_rfl) (by decide) (fun _ _ _ h=>h) (Or.inl ⟨by rfl,?_⟩) a ?_
 ·intro wx;go_simp
 simp only[O.pp,O.pb,O.pc];refine O.z0R (i:=5) (v:=J2 (some ⟨g,o+3,none⟩)) (some 27) rfl rfl (by kernel_rfl) (by kernel_rfl) (by kernel_rfl) (by decide) (fun _ _ _ h=>h) (Or.inl ⟨by rfl,?_⟩) a ?_
 ·intro wx;go_simp
 simp only[O.pp,O.pb,O.pc];refine O.z1m (i:=6) (v:=J1 At x.told.length Ct) (some 28) rfl rfl (by kernel_rfl) (by kernel_rfl) (by kernel_rfl) (by kernel_rfl) (by decide) (fun _ _ _ h=>h) (Or.inl ⟨by rfl,?_⟩) a ?_
 ·intro wx f;obtain⟨l3,l5,l6,l7,l8,l9⟩:=hF wx f;go_simp
 simp only[O.pp,O.pb,O.pc];refine O.z0R (i:=8) (v:=J2 (some ⟨g,o,none⟩)) (some 30) rfl rfl (by kernel_rfl) (by kernel_rfl) (by kernel_rfl) (by decide) (fun _ _ _ h=>h) (Or.inl ⟨by rfl,?_⟩) a ?_
 ·intro wx;go_simp
 simp only[O.pp,O.pb,O.pc];refine O.z0R (i:=9) (v:=J2 (some ⟨g,o,none⟩)) (some 31) rfl rfl (by kernel_rfl) (by kernel_rfl) (by kernel_rfl) (by decide) (fun _ _ _ h=>h) (Or.inl ⟨by rfl,?_⟩) a ?_
 ·intro wx;go_simp
 simp only[O.pp,O.pb,O.pc];refine O.z0R (i:=10) (v:=J2 (some ⟨g,o+5,none⟩)) (some 32) rfl rfl (by kernel_rfl) (by kernel_rfl) (by kernel_rfl) (by decide) (fun _ _ _ h=>h) (Or.inl ⟨by rfl,?_⟩) a ?_
 ·intro wx;go_simp
 simp only[O.pp,O.pb,O.pc];refine O.z1m (i:=11) (v:=J1 Ad x.done.length r) (some 33) rfl rfl (by kernel_rfl) (by kernel_rfl) (by kernel_rfl) (by kernel_rfl) (by decide) (fun _ _ _ h=>h) (Or.inl ⟨by rfl,?_⟩) a ?_
 ·intro wx f;obtain⟨l3,l5,l6,l7,l8,l9⟩:=hF wx f;go_simp
 simp only[O.pp,O.pb,O.pc];refine O.z0R (i:=13) (v:=J2 (some ⟨g,o,none⟩)) (some 35) rfl rfl (by kernel_rfl) (by kernel_rfl) (by kernel_rfl) (by decide) (fun _ _ _ h=>h) (Or.inl ⟨by rfl,?_⟩) a ?_
 ·intro wx;go_simp
 simp only[O.pp,O.pb,O.pc];refine O.z0R (i:=14) (v:=J2 (some ⟨g,o,none⟩)) (some 36) rfl rfl (by kernel_rfl) (by kernel_rfl) (by kernel_rfl) (by decide) (fun _ _ _ h=>h) (Or.inl ⟨by rfl,?_⟩) a ?_
 ·intro wx;go_simp
 simp only[O.pp,O.pb,O.pc];refine O.z0R (i:=15) (v:=J2 (some ⟨g,o+6,none⟩)) (some 37) rfl rfl (by kernel_rfl) (by kernel_rfl) (by kernel_rfl) (by decide) (fun _ _ _ h=>h) (Or.inl ⟨by rfl,?_⟩) a ?_
 ·intro wx;go_simp
 simp only[O.pp,O.pb,O.pc];refine O.z1m (i:=16) (v:=J4 #[J1 A1 x.out.S.length C1,J1 A2 x.out.D.length C2,J I x.out.g,J3 x.out.cl]) (some 38) rfl rfl (by kernel_rfl) (by kernel_rfl) (by kernel_rfl) (by kernel_rfl) (by decide) (fun _ _ _ h=>h) (Or.inl ⟨by rfl,?_⟩) a ?_
 ·intro wx f;obtain⟨l3,l5,l6,l7,l8,l9⟩:=hF wx f;go_simp
 simp only[O.pp,O.pb,O.pc];refine O.z5f (i:=7) (by kernel_rfl) rfl (by decide) (fun K d=>?_)
 refine Ln.z2Q rfl _ _ 33 rfl wl.heap.size 74 i0 _ 2 16 underlying33 hi k0 k1 k2 rfl (by decide) (J1 none 0 0) 0 [] rfl (World.ownsRow_nil _ _ _ _) At x.told.length Ct (pwC x.told) rfl (z0r _) nt ((n.over a).cellsOf rfl) (z8L _) bT (by omega) (Nat.le_refl _) ?_
 intro B1 E1 w5 s d7;rw[Nat.zero_add,List.nil_append]at s;have b5:Bl wl w5:=a.trans ((Below.refl _ wl.drew).grown d7 (Nat.le_refl _) (fun k hk=>by cases hk))
 have r5:Rep (fun b=>wl.heap.size<=b) w5 (J1 B1 x.told.length E1) 2 16 (pwC x.told):=Rep.own s st;refine d _ _ b5 ?_;clear d K s d7 a;rw[Nat.zero_add];go_simp;refine O.z5f (i:=12) (by kernel_rfl) rfl (by decide) (fun K d=>?_)
 refine Ln.z2Q rfl _ _ 34 rfl w5.heap.size 3 j0 _ 1 8 underlying34 hj k3 k4 k5 rfl (by decide) (J1 none 0 0) 0 [] rfl (World.ownsRow_nil _ _ _ _) Ad x.done.length r (inC x.done) rfl (z0M _) nd ((q.over b5).cellsOf rfl) (q8o _) bD (by omega) (Nat.le_refl _) ?_
 intro B2 E2 w6 t d8;rw[Nat.zero_add,List.nil_append]at t;have m:Bl w5 w6:=(Below.refl _ w5).grown d8 (Nat.le_refl _) (fun k hk=>by cases hk)
 have w:Bl wl w6:=zbt b5 m;have r6:Rep (fun b=>wl.heap.size<=b) w6 (J1 B2 x.done.length E2) 1 8 (inC x.done):=(Rep.own t sd).mono fun b _ h=>Nat.le_trans b5.size h;refine d _ _ w ?_;clear d K t d8;rw[Nat.zero_add];go_simp;have q5:=r5.over m;refine O.q7B (by kernel_rfl) rfl rfl (fun K d=>?_)
 go_simp;refine (Ln.z3s x.out A1 A2 C1 C2 sb so db dO w6 (hL.later w)).mono ?_;rintro e w7⟨F1,G1,F2,G2,rfl,u,j⟩;refine d _ _ ?_;clear d K;have b7:Bl wl w7:=zbt w j
 have d9:Lk4 wl.heap.size w7 x (J1 B1 x.told.length E1) (J1 B2 x.done.length E2) (J1 F1 x.out.S.length G1) (J1 F2 x.out.D.length G2):=
  ⟨q5.over j,r6.over j,(Rep.own u.oS hL.hls).mono fun b _ h=>by have:=w.size;omega,(Rep.own u.oD hL.hld).mono fun b _ h=>by have:=w.size;omega⟩
 have k7:=J6 d9;obtain⟨l3,l5,l6,l7,l8,l9⟩:=hF w7 b7;have z:∀ k,k<14->w7.frozen? ⟨g,o+k,none⟩=false:=fun k hk=>(b7.frozen (p:=⟨g,o+k,none⟩) l).trans (hz k hk);have z3:=z 3 (by omega)
 have z5:=z 5 (by omega)
 have z6:=z 6 (by omega)
 have z7:=z 7 (by omega)
 have z8:=z 8 (by omega)
 have z9:=z 9 (by omega)
 clear d9 u j z hz hF q5 r5 r6 m b5 w hL n q d5 d6 y;refine O.X 18 (J2 (some ⟨g,o,none⟩)) 40 rfl rfl ?_ ?_
 ·intro wx;go_simp
 simp only[O.pp,O.pb,O.pc];refine O.X 19 (J2 (some ⟨g,o+3,none⟩)) 41 rfl rfl ?_ ?_
 ·intro wx;go_simp
 simp only[O.pp,O.pb,O.pc];refine O.z9D (i:=20) (by kernel_rfl) rfl rfl (fun K d=>?_)
 go_simp;refine d _ _ ?_;clear d K;refine O.X 21 (J2 (some ⟨g,o,none⟩)) 42 rfl rfl ?_ ?_
 ·intro wx;go_simp
 simp only[O.pp,O.pb,O.pc];refine O.X 22 (J2 (some ⟨g,o+5,none⟩)) 43 rfl rfl ?_ ?_
 ·intro wx;go_simp
 simp only[O.pp,O.pb,O.pc];refine O.z9D (i:=23) (by kernel_rfl) rfl rfl (fun K d=>?_)
 go_simp;refine d _ _ ?_;clear d K;refine O.X 24 (J2 (some ⟨g,o,none⟩)) 44 rfl rfl ?_ ?_
 ·intro wx;go_simp
 simp only[O.pp,O.pb,O.pc];refine O.X 25 (J2 (some ⟨g,o+6,none⟩)) 45 rfl rfl ?_ ?_
 ·intro wx;go_simp
 simp only[O.pp,O.pb,O.pc];refine O.z9D (i:=26) (by kernel_rfl) rfl rfl (fun K d=>?_)
 go_simp;refine d _ _ ?_;clear d K;refine wpAny_done (by kernel_rfl) ?_ _
 exact NoPanic.normal (HK.out _ _ _ _ _ _ _ _ _ _ _ _ _ _ _ _ _ _ _ _ _ _ _ _ _ _ _ _ w7 b7 k7.out)
end Pv
namespace Cd
open Go.RowKit
theorem z5s{α:Type}{l m:List α}{k:Nat}(d:α)(h:l.take k=m.take k)(hl:k<l.length)(a:k<m.length)(b:l.getD k d=m.getD k d):l.take (k+1)=m.take (k+1):=by
  rw[List.take_succ_eq_append_getElem hl,List.take_succ_eq_append_getElem a,h]
  simp[List.getD,hl,a]at b
  rw[b]
theorem j1n(l m:List (Int×Int))(a u:Option Addr)(c P b off v d:Nat)(w:World)(q:l.length<=maxLen)(n:m.length<=maxLen)(K:0<l.length->a=some ⟨b,off,none⟩)(r:0<m.length->u=some ⟨v,d,none⟩)
    (Q:z2I w b off l) (x:z2I w v d m) :
    Calls prog 12 #[J1 a l.length c,J1 u m.length P] w fun e w'=>e=.returned (J3 (decide (l=m)))/\Bl w w':=by
  unfold maxLen at q n;have R:Hid (0<l.length->a=some ⟨b,off,none⟩):=K;have A:Hid (0<m.length->u=some ⟨v,d,none⟩):=r;clear K r
  by_cases f:l.length=m.length
  · have h0:((l.length:Int) != (m.length:Int))=false:=by simp[f]
    have U:Hid (l.length=m.length):=f;have S:l.length<=m.length:=by omega
    have L:m.length<=l.length:=by omega
    clear f
    go_enter func12,ntmps12
    go_wp2
    go_loopw [5] (fun i wl=>∃ k:Nat,k<=l.length/\i=J I k/\Hid (l.take k=m.take k)/\Hid (Bl w wl)) (fun i _=>l.length - (intOf i).toNat)
    case atStart=>exact⟨0,Nat.zero_le _,rfl,rfl,Below.refl _ _⟩
    case round =>
      obtain⟨k,V,rfl,M,o⟩:=hrel
      by_cases s:k<l.length
      · have hcell:=Q.later o.out k s
        have j:k<m.length:=by omega
        have hcell':=x.later o.out k j;obtain⟨y,B⟩:∃ y,l.getD k (0,0)=y:=⟨_,rfl⟩;obtain⟨z,C⟩:∃ z,m.getD k (0,0)=z:=⟨_,rfl⟩;rw[B]at hcell;rw[C]at hcell';obtain⟨D,E⟩:=hcell;obtain⟨F,G⟩:=hcell';have e:=R.out (by omega)
        subst e;have e:=A.out (by omega)
        subst e;have t:Hid (l.getD k (0,0)=y/\m.getD k (0,0)=z):=⟨B,C⟩;clear B C;obtain⟨y0,y1⟩:=y;obtain⟨H,N⟩:=z;dsimp only at D E F G
        by_cases g:(y0,y1)=(H,N)
        · cases g
          go_wp2_with fail
          go_quiet (fail);go_wp2;go_roundw
          case rel=>exact⟨k+1,by omega,by go_num,z5s (0,0) M.out s j (t.out.1.trans t.out.2.symm),below_drewN o.out _⟩
          case measure=>simp[intOf];omega
        · have p:Hid (decide (l=m)=false):=by
            show _=_
            rw[decide_eq_false_iff_not];intro e;subst e;exact g (t.out.1.symm.trans t.out.2)
          by_cases h1:y0=H
          · subst h1
            have T:(y1 == N)=false:=by simp;intro h2;exact g (by rw[h2])
            clear g
            go_wp2_with fail
            go_quiet (fail);go_wp2;go_ret;exact⟨by rw[p.out];rfl,below_drewN o.out _⟩
          · have T:(y0 == H)=false:=by simpa using h1
            clear g h1
            go_wp2_with fail
            go_quiet (fail);go_wp2;go_ret;exact⟨by rw[p.out];rfl,below_drewN o.out _⟩
      · have p:Hid (decide (l=m)=true):=by
          show _=_
          rw[decide_eq_true_eq];have h:=M.out
          rwa [List.take_of_length_le (by omega),List.take_of_length_le (by omega)]at h
        go_wp2;go_ret;exact⟨by rw[p.out];rfl,o.out⟩
  · have p:Hid (decide (l=m)=false):=by
      show _=_
      rw[decide_eq_false_iff_not];intro e;subst e;exact f rfl
    have h0:((l.length:Int) != (m.length:Int))=true:=by simp;omega
    clear f
    go_enter func12,ntmps12
    go_wp2;go_ret;exact⟨by rw[p.out];rfl,Below.refl _ _⟩
theorem q9q(l m:List (Int×Int))(a u:Option Addr)(c P b off v d:Nat)(w:World)(q:l.length<=maxLen)(n:m.length<=maxLen)(K:0<l.length->a=some ⟨b,off,none⟩)(r:0<m.length->u=some ⟨v,d,none⟩)
    (Q:z2I w b off l) (x:z2I w v d m) :
    Calls prog 55 #[J1 a l.length c,J1 u m.length P] w fun e w'=>e=.returned (J3 (decide (l=m)))/\Bl w w':=by
  unfold maxLen at q n;have R:Hid (0<l.length->a=some ⟨b,off,none⟩):=K;have A:Hid (0<m.length->u=some ⟨v,d,none⟩):=r;clear K r
  by_cases f:l.length=m.length
  · have h0:((l.length:Int) != (m.length:Int))=false:=by simp[f]
    have U:Hid (l.length=m.length):=f;have S:l.length<=m.length:=by omega
    have L:m.length<=l.length:=by omega
    clear f
    go_enter func55,ntmps55
    go_wp2
    go_loopw [13] (fun i wl=>∃ k:Nat,k<=l.length/\i=J I k/\Hid (l.take k=m.take k)/\Hid (Bl w wl)) (fun i _=>l.length - (intOf i).toNat)
    case atStart=>exact⟨0,Nat.zero_le _,rfl,rfl,Below.refl _ _⟩
    case round =>
      obtain⟨k,V,rfl,M,o⟩:=hrel
      by_cases s:k<l.length
      · have hcell:=Q.later o.out k s
        have j:k<m.length:=by omega
        have hcell':=x.later o.out k j;obtain⟨y,B⟩:∃ y,l.getD k (0,0)=y:=⟨_,rfl⟩;obtain⟨z,C⟩:∃ z,m.getD k (0,0)=z:=⟨_,rfl⟩;rw[B]at hcell;rw[C]at hcell';obtain⟨D,E⟩:=hcell;obtain⟨F,G⟩:=hcell';have e:=R.out (by omega)
        subst e;have e:=A.out (by omega)
        subst e;have t:Hid (l.getD k (0,0)=y/\m.getD k (0,0)=z):=⟨B,C⟩;clear B C;obtain⟨y0,y1⟩:=y;obtain⟨H,N⟩:=z;dsimp only at D E F G
        by_cases g:(y0,y1)=(H,N)
        · cases g
          go_wp2_with fail
          go_quiet (fail);go_wp2;go_roundw
          case rel=>exact⟨k+1,by omega,by go_num,z5s (0,0) M.out s j (t.out.1.trans t.out.2.symm),below_drewN o.out _⟩
          case measure=>simp[intOf];omega
        · have p:Hid (decide (l=m)=false):=by
            show _=_
            rw[decide_eq_false_iff_not];intro e;subst e;exact g (t.out.1.symm.trans t.out.2)
          by_cases h1:y0=H
          · subst h1
            have T:(y1 == N)=false:=by simp;intro h2;exact g (by rw[h2])
            clear g
            go_wp2_with fail
            go_quiet (fail);go_wp2;go_ret;exact⟨by rw[p.out];rfl,below_drewN o.out _⟩
          · have T:(y0 == H)=false:=by simpa using h1
            clear g h1
            go_wp2_with fail
            go_quiet (fail);go_wp2;go_ret;exact⟨by rw[p.out];rfl,below_drewN o.out _⟩
      · have p:Hid (decide (l=m)=true):=by
          show _=_
          rw[decide_eq_true_eq];have h:=M.out
          rwa [List.take_of_length_le (by omega),List.take_of_length_le (by omega)]at h
        go_wp2;go_ret;exact⟨by rw[p.out];rfl,o.out⟩
  · have p:Hid (decide (l=m)=false):=by
      show _=_
      rw[decide_eq_false_iff_not];intro e;subst e;exact f rfl
    have h0:((l.length:Int) != (m.length:Int))=true:=by simp;omega
    clear f
    go_enter func55,ntmps55
    go_wp2;go_ret;exact⟨by rw[p.out];rfl,Below.refl _ _⟩
theorem q6N(l m:List Int)(a u:Option Addr)(c G b off v d:Nat)(w:World)(o:l.length<=maxLen)(n:m.length<=maxLen)(D:0<l.length->a=some ⟨b,off,none⟩)(p:0<m.length->u=some ⟨v,d,none⟩)
    (H:z0F w b off l) (x:z0F w v d m) :
    Calls prog 18 #[J1 a l.length c,J1 u m.length G] w fun e w'=>e=.returned (J3 (decide (l=m)))/\Bl w w':=by
  unfold maxLen at o n;have K:Hid (0<l.length->a=some ⟨b,off,none⟩):=D;have A:Hid (0<m.length->u=some ⟨v,d,none⟩):=p;clear D p
  by_cases f:l.length=m.length
  · have h0:((l.length:Int) != (m.length:Int))=false:=by simp[f]
    have M:Hid (l.length=m.length):=f;have L:l.length<=m.length:=by omega
    have E:m.length<=l.length:=by omega
    clear f
    go_enter func18,ntmps18
    go_wp2
    go_loopw [13] (fun i wl=>∃ k:Nat,k<=l.length/\i=J I k/\Hid (l.take k=m.take k)/\Hid (Bl w wl)) (fun i _=>l.length - (intOf i).toNat)
    case atStart=>exact⟨0,Nat.zero_le _,rfl,rfl,Below.refl _ _⟩
    case round =>
      obtain⟨k,N,rfl,F,q⟩:=hrel
      by_cases r:k<l.length
      · have hcell:=H.later q.out k r
        have j:k<m.length:=by omega
        have hcell':=x.later q.out k j;obtain⟨y,B⟩:∃ y,l.getD k 0=y:=⟨_,rfl⟩;obtain⟨z,C⟩:∃ z,m.getD k 0=z:=⟨_,rfl⟩;rw[B]at hcell;rw[C]at hcell';have e:=K.out (by omega)
        subst e;have e:=A.out (by omega)
        subst e;have t:Hid (l.getD k 0=y/\m.getD k 0=z):=⟨B,C⟩;clear B C
        by_cases g:y=z
        · subst g
          go_wp2_with fail
          go_quiet (fail);go_wp2;go_roundw
          case rel=>exact⟨k+1,by omega,by go_num,z5s 0 F.out r j (t.out.1.trans t.out.2.symm),below_drewN q.out _⟩
          case measure=>simp[intOf];omega
        · have s:Hid (decide (l=m)=false):=by
            show _=_
            rw[decide_eq_false_iff_not];intro e;subst e;exact g (t.out.1.symm.trans t.out.2)
          have P:(y != z)=true:=by simpa using g
          clear g
          go_wp2_with fail
          go_quiet (fail);go_wp2;go_ret;exact⟨by rw[s.out];rfl,below_drewN q.out _⟩
      · have s:Hid (decide (l=m)=true):=by
          show _=_
          rw[decide_eq_true_eq];have h:=F.out
          rwa [List.take_of_length_le (by omega),List.take_of_length_le (by omega)]at h
        go_wp2;go_ret;exact⟨by rw[s.out];rfl,q.out⟩
  · have s:Hid (decide (l=m)=false):=by
      show _=_
      rw[decide_eq_false_iff_not];intro e;subst e;exact f rfl
    have h0:((l.length:Int) != (m.length:Int))=true:=by simp;omega
    clear f
    go_enter func18,ntmps18
    go_wp2;go_ret;exact⟨by rw[s.out];rfl,Below.refl _ _⟩
theorem q0J(k i v n k' a b c:Int)(S d:List (Int×Int))(D e:List Int) :
    ((k == k')=false/\decide (k=k'/\i=a/\v=b/\n=c/\S=d/\D=e)=false) ∨
    (k=k'/\(i == a)=false/\decide (k=k'/\i=a/\v=b/\n=c/\S=d/\D=e)=false) ∨
    (k=k'/\i=a/\(v == b)=false/\decide (k=k'/\i=a/\v=b/\n=c/\S=d/\D=e)=false) ∨
    (k=k'/\i=a/\v=b/\(n == c)=false/\decide (k=k'/\i=a/\v=b/\n=c/\S=d/\D=e)=false) ∨
    (k=k'/\i=a/\v=b/\n=c/\decide (S=d)=false/\decide (k=k'/\i=a/\v=b/\n=c/\S=d/\D=e)=false) ∨
    (k=k'/\i=a/\v=b/\n=c/\decide (S=d)=true/\decide (k=k'/\i=a/\v=b/\n=c/\S=d/\D=e)=decide (D=e)):=by
  by_cases h1:k=k' <;> by_cases h2:i=a <;> by_cases h3:v=b <;> by_cases f:n=c <;> by_cases g:S=d <;> simp[h1,h2,h3,f,g]
theorem q8V(k i v n k' E G H:Int)(S b:List (Int×Int))(D c:List Int)(sa da d f:Option Addr)(cs cd sb so db dO t u g h j l:Nat)(w:World)
    (hls:S.length<=maxLen) (hld:D.length<=maxLen) (hsa:0<S.length->sa=some ⟨sb,so,none⟩) (hda:0<D.length->da=some ⟨db,dO,none⟩) (PS:z2I w sb so S) (PD:z0F w db dO D)
    (m:b.length<=maxLen) (p:c.length<=maxLen) (q:0<b.length->d=some ⟨g,h,none⟩) (r:0<c.length->f=some ⟨j,l,none⟩) (x:z2I w g h b) (y:z0F w j l c) :
    Calls prog 57 #[J4 #[J I k,J I i,J I v,J I n,J1 sa S.length cs,J1 da D.length cd],J4 #[J I k',J I E,J I G,J I H,J1 d b.length t,J1 f c.length u]] w
      fun e w'=>e=.returned (J3 (decide (k=k'/\i=E/\v=G/\n=H/\S=b/\D=c)))/\Bl w w':=by
  have L:=q0J k i v n k' E G H S b D c;generalize decide (k=k'/\i=E/\v=G/\n=H/\S=b/\D=c)=F at *;have X:Hid (S.length<=maxLen/\D.length<=maxLen/\(0<S.length->sa=some ⟨sb,so,none⟩)/\(0<D.length->da=some ⟨db,dO,none⟩)):=⟨hls,hld,hsa,hda⟩;have K:Hid (b.length<=maxLen/\c.length<=maxLen/\(0<b.length->d=some ⟨g,h,none⟩)/\(0<c.length->f=some ⟨j,l,none⟩)):=⟨m,p,q,r⟩;have z:∀ o A,Bl w ((w.alloc o).alloc A):=fun o A=>(z0m w o).alloc (by simp) A
  have a:Hid (∀ o A,Bl w ((w.alloc o).alloc A)):=z;clear hls hld hsa hda m p q r z
  rcases L with⟨h1,rfl⟩ | ⟨rfl,h1,rfl⟩ | ⟨rfl,rfl,h1,rfl⟩ | ⟨rfl,rfl,rfl,h1,rfl⟩ | ⟨rfl,rfl,rfl,rfl,h1,rfl⟩ | ⟨rfl,rfl,rfl,rfl,h1,rfl⟩
  all_goals go_enter func57,ntmps57
  all_goals go_wp2_with (first
    | (go_at_call 55;refine (q9q S b sa d cs t sb so g h _ X.out.1 K.out.1 X.out.2.2.1 K.out.2.2.1 (PS.later (a.out _ _)) (x.later (a.out _ _))).mono ?_;rintro e w1⟨rfl,s⟩
       have M:=(PD.later (a.out _ _)).later s;have B:=(y.later (a.out _ _)).later s;obtain⟨Q,R⟩:=z7t s;have C:Hid (Bl w w1):=z0N (a.out _ _) s
       clear s PS PD x y)
    | (go_at_call 18;refine (q6N D c da f cd u db dO j l _ X.out.2.1 K.out.2.1 X.out.2.2.2 K.out.2.2.2 M B).mono ?_;rintro e P⟨rfl,s⟩
       have N:Hid (Bl w P):=z0N C.out s
       clear s))
  all_goals go_ret
  all_goals refine⟨rfl,?_⟩
  all_goals first | exact N.out | exact C.out | exact a.out _ _
end Cd
namespace Pv
open Go.RowKit
section
variable {P P':Nat->Prop} {w:World}
theorem z6A(l:List (Int×Int))(v c:Value)(h:Rep P w v 2 16 (pwC l))(f:Rep P' w c 2 16 (pwC l)):Calls prog 55 #[v,c] w fun e w'=>e=.returned (J3 true)/\Bl w w':=by
 obtain⟨A1,C1,A2,C2,sb,so,db,dO,rfl,-,L⟩:=Rep.lies (D:=[]) h (Rep.nil P w 1 8);obtain⟨g,i,m,n,a,b,j,k,rfl,-,d⟩:=Rep.lies (D:=[]) f (Rep.nil P' w 1 8);have:=Cd.q9q l l A1 g C1 i sb so a b w L.hls L.hls L.hsa d.hsa L.PS d.PS
 rwa [decide_eq_true rfl]at this
theorem z6o(l:List Int)(v c:Value)(h:Rep P w v 1 8 (inC l))(f:Rep P' w c 1 8 (inC l)):Calls prog 18 #[v,c] w fun e w'=>e=.returned (J3 true)/\Bl w w':=by
 obtain⟨A1,C1,A2,C2,sb,so,db,dO,-,rfl,L⟩:=Rep.lies (S:=[]) (Rep.nil P w 2 16) h;obtain⟨m,n,g,i,j,k,a,b,-,rfl,d⟩:=Rep.lies (S:=[]) (Rep.nil P' w 2 16) f;have:=Cd.q6N l l A2 g C2 i db dO a b w L.hld L.hld L.hda d.hda L.PD d.PD
 rwa [decide_eq_true rfl]at this
theorem q2h(k i n m:Int)(S:List (Int×Int))(D:List Int)(v1 v2 a b:Value)(h1:Rep P w v1 2 16 (pwC S))(h2:Rep P w v2 1 8 (inC D))(d:Rep P' w a 2 16 (pwC S))(f:Rep P' w b 1 8 (inC D)) :
  Calls prog 57 #[J4 #[J I k,J I i,J I n,J I m,v1,v2],J4 #[J I k,J I i,J I n,J I m,a,b]] w fun e w'=>e=.returned (J3 true)/\Bl w w':=by
 obtain⟨A1,C1,A2,C2,sb,so,db,dO,rfl,rfl,L⟩:=Rep.lies h1 h2;obtain⟨o,p,q,r,g,h,j,l,rfl,rfl,c⟩:=Rep.lies d f;have e:decide (k=k/\i=i/\n=n/\m=m/\S=S/\D=D)=true:=decide_eq_true ⟨rfl,rfl,rfl,rfl,rfl,rfl⟩;have:=Cd.q8V k i n m k i n m S S D D A1 A2 o q C1 C2 sb so db dO p r g h j l w L.hls L.hld L.hsa L.hda L.PS L.PD L.hls L.hld c.hsa c.hda c.PS c.PD
 rwa [e]at this
end
end Pv
section
open Go.RowKit
theorem j1a(w:World)(t s l:Int)(j d:Bool):(Op.equalIn 9999 26 (J4 #[J I t,J I s,J I l,J3 j,J3 d]) (J4 #[J I t,J I s,J I l,J3 j,J3 d])).run prog w=.ok true w:=by
 go_simp
theorem j1q(w:World)(V:Nat->Vd):(Op.equalIn 10000 27 (J4 (vsC V)) (J4 (vsC V))).run prog w=.ok true w:=by
 have a:(prog.info? 26).isSome=true:=by kernel_rfl
 obtain⟨i,a⟩:=Option.isSome_iff_exists.1 a;have b:prog.cellsOf 26=5:=by kernel_rfl
 rw[run_equalIn_array w 9999 _ _ underlying27 a,b,show List.range 6=[0,1,2,3,4,5] from rfl];have h:=j1a;simp only[Op.eqItems,vsC];go_simp
theorem j0L(w:World)(a b c d e f:Int):(Op.equalIn 9999 28 (J4 #[J I a,J I b,J I c,J I d,J I e,J I f]) (J4 #[J I a,J I b,J I c,J I d,J I e,J I f])).run prog w=.ok true w:=by
 have g:(prog.info? 3).isSome=true:=by kernel_rfl
 obtain⟨i,g⟩:=Option.isSome_iff_exists.1 g;have h:prog.cellsOf 3=1:=by kernel_rfl
 rw[run_equalIn_array w 9998 _ _ underlying28 g,h,show List.range 6=[0,1,2,3,4,5] from rfl];simp only[Op.eqItems];go_simp
theorem j1c(w:World)(S:Nat->Nat->Int):(Op.equalIn 10000 29 (J4 (shC S)) (J4 (shC S))).run prog w=.ok true w:=by
 have a:(prog.info? 28).isSome=true:=by kernel_rfl
 obtain⟨i,a⟩:=Option.isSome_iff_exists.1 a;have b:prog.cellsOf 28=6:=by kernel_rfl
 rw[run_equalIn_array w 9999 _ _ underlying29 a,b,show List.range 4=[0,1,2,3] from rfl];have h:=j0L;simp only[Op.eqItems,shC];go_simp
theorem j1z(w:World)(V:Nat->Vd):(binOp .neq 27 (J4 (vsC V)) (J4 (vsC V))).run prog w=.ok (J3 false) w:=by
 rw[run_neq_struct,j1q];rfl
theorem j1g(w:World)(S:Nat->Nat->Int):(binOp .neq 29 (J4 (shC S)) (J4 (shC S))).run prog w=.ok (J3 false) w:=by
 rw[run_neq_struct,j1c];rfl
theorem eqH(w:World)(a b:Int):(Op.equalIn 9999 125 (J4 #[J I a,J I b]) (J4 #[J I a,J I b])).run prog w=.ok true w:=by
 have c:(prog.info? 3).isSome=true:=by kernel_rfl
 obtain⟨i,c⟩:=Option.isSome_iff_exists.1 c;have d:prog.cellsOf 3=1:=by kernel_rfl
 rw[run_equalIn_array w 9998 _ _ underlying125 c,d,show List.range 2=[0,1] from rfl];simp only[Op.eqItems];go_simp
theorem j1G(w:World)(x:Wt):(binOp .neq 127 (J4 (wtC x)) (J4 (wtC x))).run prog w=.ok (J3 false) w:=by
 have h:=fun w=>eqH w x.h0 x.h1;rw[run_neq_struct];unfold wtC;go_simp
theorem j1y(w:World)(b:Bk):(binOp .neq 24 (J4 #[J I b.f0,J I b.f1,J I b.f2,J I b.f3,J I b.bo,J I b.wa,J I b.bu]) (J4 #[J I b.f0,J I b.f1,J I b.f2,J I b.f3,J I b.bo,J I b.wa,J I b.bu])).run prog w=.ok (J3 false) w:=by
 rw[neB]
 simp
theorem z7a(s:St)(f g:Option Addr)(G ao bb bo j l:Nat)(w:World)(q:z1R w f G ao s.W)(y:z1R w g bb bo s.W) :
  Calls prog 54 #[J4 (stC s (J1 f s.W.length j)),J4 (stC s (J1 g s.W.length l))] w fun e w'=>e=.returned (J3 true)/\Bl w w':=by
 have o:=(SAt.new w (stC s (J1 f s.W.length j))).alloc (J5 (stC s (J1 g s.W.length l)) 32);have p:=SAt.new2 w (J5 (stC s (J1 f s.W.length j)) 32) (stC s (J1 g s.W.length l));have a:Hid (Bl w ((w.alloc (J5 (stC s (J1 f s.W.length j)) 32)).alloc (J5 (stC s (J1 g s.W.length l)) 32))):=(znw w _).alloc (by simp) _
 have z:=J6 q;have A:=J6 y;have B:=q.len;clear q y;have H:=fun w=>j1z w s.V;have K:=fun w=>j1g w s.S;have L:=fun w=>j1y w s.b
 go_enter func54,ntmps54
 go_upto_region 1 with fail
 generalize (w.alloc (J5 (stC s (J1 f s.W.length j)) 32)).alloc (J5 (stC s (J1 g s.W.length l)) 32)=w0 at *;obtain⟨M,N,P,Q,R,T,U,C,X⟩:=z0g o;obtain⟨y0,y1,y2,Y,Z,y5,y6,D,y8⟩:=z0g p;have r1:=z5J o;have r2:=z5J p;have E:=z5T o;have F:=z5T p
 go_upto_region 999 with (first
  | (refine wp_load_mid 27 _ rfl _ 7 rfl _ _ r1 underlying27 rfl (by rw[q0s];rfl) ?_)
  | (refine wp_load_mid 27 _ rfl _ 7 rfl _ _ r2 underlying27 rfl (by rw[q0s];rfl) ?_)
  | (refine wp_load_mid 29 _ rfl _ 37 rfl _ _ E underlying29 rfl (by rw[q2G];rfl) ?_)
  | (refine wp_load_mid 29 _ rfl _ 37 rfl _ _ F underlying29 rfl (by rw[q2G];rfl) ?_))
 have HS:=J6 o;have HT:=J6 p;have c:=z.out.adr;have d:=A.out.adr;clear M N P Q R T U C X y0 y1 y2 Y Z y5 y6 D y8 r1 r2 E F H K L o p
 go_loopw [44] (fun i wl=>∃ k:Nat,k<=s.W.length/\i=J I (k:Int)/\Hid (∃ n,wl=w0.drewN n)) (fun i _=>s.W.length - (intOf i).toNat)
 case atStart=>exact⟨0,by omega,rfl,0,rfl⟩
 case round =>
  obtain⟨k,hk,rfl,r⟩:=hrel
  by_cases t:k<s.W.length
  ·obtain⟨n,u⟩:=r.out;subst u;obtain⟨x,v,_⟩:=drop_at t;have h:Bl w (w0.drewN n):=⟨a.out.os,a.out.tape,a.out.output,a.out.size,a.out.block⟩;obtain⟨c0,c1,c2,c3,c4,c5,c6,c7⟩:=(z.out.over h).cell k x v;obtain⟨d0,d1,d2,d3,d4,d5,d6,d7⟩:=(A.out.over h).cell k x v;obtain⟨_,_,_,_,_,_,_,C,_⟩:=z0g (show SAt (w0.drewN n) w.heap.size (stC s (J1 f s.W.length j)) from HS.out);obtain⟨_,_,_,_,_,_,_,D,_⟩:=z0g (show SAt (w0.drewN n) (w.heap.size+1) (stC s (J1 g s.W.length l)) from HT.out);have n4:=fun w=>j1G w x;unfold wtC at n4;obtain rfl:=c (by omega)
   obtain rfl:=d (by omega)
   have a0:(0:Int)<=(k:Int):=by omega
   have a1:(k:Int)<(s.W.length:Int):=by omega
   clear c d v h r;have HX:Hid (∃ m,w0.drewN n=w0.drewN m):=⟨n,rfl⟩;generalize w0.drewN n=wx at *
   go_upto_region 6 with fail
   go_quiet (fail);go_wp2;go_roundw
   case rel =>
    obtain⟨m,hm⟩:=HX.out;exact⟨k+1,by omega,by go_num,m+nq,by rw[hm];simp⟩
   case measure=>simp[intOf];omega
  ·obtain⟨n,u⟩:=r.out;subst u;go_wp2;go_ret;exact⟨rfl,a.out.os,a.out.tape,a.out.output,a.out.size,a.out.block⟩
def z2V(s:St)(v:Nat)(j d:Bool):St:={ s with V:=z2a s.V v { s.V v with jail:=j,dead:=d } }
theorem q4P(s:St)(a:Value)(v:Nat)(b:v<6)(x:Bool):(stC s a).setIfInBounds (7+v * 5+3) (J3 x)=stC (z2V s v x (s.V v).dead) a:=q6f s a v b x
theorem q8b(s:St)(a:Value)(v:Nat)(b:v<6)(j d x:Bool):(stC (z2V s v j d) a).setIfInBounds (7+v * 5+4) (J3 x)=stC (z2V s v j x) a:=by
 rw[q5T _ a v b x];unfold z2V;simp only[z8r,z3k]
def z7B(s:St)(v:Int):St×Int:=
 if z4W s v=0 then if (s.V v.toNat).jail=true then (s,14) else (z2V s v.toNat true (s.V v.toNat).dead,0) else (s,z4W s v)
def z6d(s:St)(v:Int):St×Int:=
 if z4W s v=0 then if (s.V v.toNat).dead=true then (s,15) else (z2V s v.toNat true true,0) else (s,z4W s v)
theorem z7W{s:St}{v:Int}(h:z4W s v=0):z0j s=true/\(0<=v/\v<6):=by
 unfold z4W at h
 repeat' split at h
 all_goals first | (simp_all [z3g];done) | omega
theorem z1X{s:St}{v:Nat}(a:z0j s=true)(b:v<6):z4W s v=0:=by
 unfold z4W;rw[a,z3g.2 (show (0:Int)<=v/\(v:Int)<6 by omega)]
 rfl
theorem q6s(s:St)(ao:Option Addr)(sb so c:Nat)(v:Int)(w:World)(g:z1R w ao sb so s.W)(r:St×Int)(h0:z4W s v≠0)(h:r=(s,z4W s v)) :
  Calls prog 148 #[J4 (stC s (J1 ao s.W.length c)),J I v] w fun e w'=>e=.returned (.tuple #[J4 (stC r.1 (J1 ao s.W.length c)),J I r.2])/\Bl w w':=by
 have a:=(SAt.new w (stC s (J1 ao s.W.length c))).alloc (J5 Z63 32);have b:=SAt.new2 w (J5 (stC s (J1 ao s.W.length c)) 32) Z63;have d:Hid (Bl w ((w.alloc (J5 (stC s (J1 ao s.W.length c)) 32)).alloc (J5 Z63 32))):=(znw w _).alloc (by simp) _
 have j:=J6 g;have k:=J6 h;clear g h
 go_enter func148,ntmps148
 go_upto_region 1 with fail
 change Code.wp prog _ _ _ ((w.alloc (J5 (stC s (J1 ao s.W.length c)) 32)).alloc (J5 Z63 32));generalize (w.alloc (J5 (stC s (J1 ao s.W.length c)) 32)).alloc (J5 Z63 32)=w0 at *
 go_upto_region 2 with (go_at_call 144;refine (z1T s ao sb so c w.heap.size v _ a (by exact j.out.over d.out)).mono ?_;rintro e w1⟨rfl,h1⟩)
 have f:=J6 (zbt d.out h1);have l:=a.later h1 a.lt;have i:=b.later h1 b.lt;clear a b h1 d
 go_upto_region 3 with fail
 apply wp_region_lit;refine wpList_load_mid rfl 32 _ rfl _ 0 rfl _ _ l.range underlying32 rfl (by rw[z0l];rfl) ?_
 refine z1O rfl _ rfl ?_;refine wpList_store_mid rfl 32 _ _ rfl _ 0 (stC s (J1 ao s.W.length c)) rfl rfl (i.there 0 _ (by rw[z0p,z0d];omega)) (by rw[z0l];rfl) (z0q _ _ _ _) ?_
 go_wp2;exact z1a results148 i rfl f.out (by omega) s _ _ r k.out _ rfl rfl rfl
theorem q4v(s:St)(ao:Option Addr)(sb so c v:Nat)(w:World)(l:z1R w ao sb so s.W)(r:St×Int)(o:z0j s=true)(g:v<6)(h1:(s.V v).jail=true->r=(s,14))(h2:(s.V v).jail=false->r=((z2V s v true (s.V v).dead),0)) :
  Calls prog 148 #[J4 (stC s (J1 ao s.W.length c)),J I (v:Int)] w fun e w'=>e=.returned (.tuple #[J4 (stC r.1 (J1 ao s.W.length c)),J I r.2])/\Bl w w':=by
 have f:=(SAt.new w (stC s (J1 ao s.W.length c))).alloc (J5 Z63 32);have h:=SAt.new2 w (J5 (stC s (J1 ao s.W.length c)) 32) Z63;have i:Hid (Bl w ((w.alloc (J5 (stC s (J1 ao s.W.length c)) 32)).alloc (J5 Z63 32))):=(znw w _).alloc (by simp) _
 have q:=J6 l;have j:=J6 h1;have k:=J6 h2;have t:=z1X o g;have u:(v:Int)<6:=by omega
 have x:(0:Int)<=(v:Int):=by omega
 clear l h1 h2
 go_enter func148,ntmps148
 go_upto_region 1 with fail
 change Code.wp prog _ _ _ ((w.alloc (J5 (stC s (J1 ao s.W.length c)) 32)).alloc (J5 Z63 32));generalize (w.alloc (J5 (stC s (J1 ao s.W.length c)) 32)).alloc (J5 Z63 32)=w0 at *
 go_upto_region 2 with (go_at_call 144;refine (z1T s ao sb so c w.heap.size v _ f (by exact q.out.over i.out)).mono ?_;rintro e w1⟨rfl,h1⟩)
 have a:=J6 (zbt i.out h1);have b:=f.later h1 f.lt;have d:=h.later h1 h.lt;clear f h h1 i;obtain⟨c0,c1,c2,c3,B⟩:=b.val v g;have y:w.heap.size+1<w1.heap.size:=d.lt;clear c0 c1 c2
 go_upto_region 7 with (first | ((fail_if_success (go_not_at_region 6));apply wp_region_lit;refine wpList_load_mid rfl 32 _ rfl _ 0 rfl _ _ b.range underlying32 rfl (by rw[z0l];rfl) ?_;refine wpList_store_mid rfl 32 _ _ rfl _ 0 (stC s (J1 ao s.W.length c)) rfl rfl (d.there 0 _ (by rw[z0p,z0d];omega)) (by rw[z0l];rfl) (z0q _ _ _ _) ?_))
 ·exact z1a results148 d rfl a.out (by omega) s _ _ r (j.out ‹(s.V v).jail=true›) _ rfl rfl rfl
 ·have z:=J6 (k.out ‹(s.V v).jail=false›);have f0:=b.free (7+v * 5+3);have m:=b.set (7+v * 5+3) (J3 true);rw[q4P _ _ v g]at m;have n:SAt (w1.setCell ⟨w.heap.size,7+v * 5+3,none⟩ (J3 true)) (w.heap.size+1) Z63:=(d.other (by omega) (J3 true):SAt _ _ _)
  have A:=J6 (a.out.setCell (p:=⟨w.heap.size,7+v * 5+3,none⟩) (Nat.le_refl _) (J3 true));clear b d a
  go_upto_region 8 with fail
  generalize (w1.setCell ⟨w.heap.size,7+v * 5+3,none⟩ (J3 true))=w9 at *;apply wp_region_lit;refine wpList_load_mid rfl 32 _ rfl _ 0 rfl _ _ m.range underlying32 rfl (by rw[z0l];rfl) ?_
  refine wpList_store_mid rfl 32 _ _ rfl _ 0 (stC (z2V s v true (s.V v).dead) (J1 ao s.W.length c)) rfl rfl (n.there 0 _ (by rw[z0p,z0d];omega)) (by rw[z0l];rfl) (z0q _ _ _ _) ?_
  go_wp2;exact z1a results148 n rfl A.out (by omega) (z2V s v true (s.V v).dead) (J1 ao s.W.length c) 0 r z.out _ rfl rfl rfl
theorem q2b(s:St)(ao:Option Addr)(sb so c:Nat)(v:Int)(w:World)(a:z1R w ao sb so s.W) :
  Calls prog 148 #[J4 (stC s (J1 ao s.W.length c)),J I v] w fun e w'=>e=.returned (.tuple #[J4 (stC (z7B s v).1 (J1 ao s.W.length c)),J I (z7B s v).2])/\Bl w w':=by
 by_cases h:z4W s v=0
 ·obtain⟨b,v0,v1⟩:=z7W h;obtain⟨v,rfl⟩:=Int.eq_ofNat_of_zero_le v0;exact q4v s ao sb so c v w a _ b (by omega) (fun h1=>by rw[z7B,if_pos h];exact if_pos h1) (fun h1=>by rw[z7B,if_pos h];exact if_neg (by simp[h1]))
 ·exact q6s s ao sb so c v w a _ h (by unfold z7B;exact if_neg h)
theorem q6i(s:St)(ao:Option Addr)(sb so c:Nat)(v:Int)(w:World)(g:z1R w ao sb so s.W)(r:St×Int)(h0:z4W s v≠0)(h:r=(s,z4W s v)) :
  Calls prog 151 #[J4 (stC s (J1 ao s.W.length c)),J I v] w fun e w'=>e=.returned (.tuple #[J4 (stC r.1 (J1 ao s.W.length c)),J I r.2])/\Bl w w':=by
 have a:=(SAt.new w (stC s (J1 ao s.W.length c))).alloc (J5 Z63 32);have b:=SAt.new2 w (J5 (stC s (J1 ao s.W.length c)) 32) Z63;have d:Hid (Bl w ((w.alloc (J5 (stC s (J1 ao s.W.length c)) 32)).alloc (J5 Z63 32))):=(znw w _).alloc (by simp) _
 have j:=J6 g;have k:=J6 h;clear g h
 go_enter func151,ntmps151
 go_upto_region 1 with fail
 change Code.wp prog _ _ _ ((w.alloc (J5 (stC s (J1 ao s.W.length c)) 32)).alloc (J5 Z63 32));generalize (w.alloc (J5 (stC s (J1 ao s.W.length c)) 32)).alloc (J5 Z63 32)=w0 at *
 go_upto_region 2 with (go_at_call 144;refine (z1T s ao sb so c w.heap.size v _ a (by exact j.out.over d.out)).mono ?_;rintro e w1⟨rfl,h1⟩)
 have f:=J6 (zbt d.out h1);have l:=a.later h1 a.lt;have i:=b.later h1 b.lt;clear a b h1 d
 go_upto_region 3 with fail
 apply wp_region_lit;refine wpList_load_mid rfl 32 _ rfl _ 0 rfl _ _ l.range underlying32 rfl (by rw[z0l];rfl) ?_
 refine z1O rfl _ rfl ?_;refine wpList_store_mid rfl 32 _ _ rfl _ 0 (stC s (J1 ao s.W.length c)) rfl rfl (i.there 0 _ (by rw[z0p,z0d];omega)) (by rw[z0l];rfl) (z0q _ _ _ _) ?_
 go_wp2;exact z1a results151 i rfl f.out (by omega) s _ _ r k.out _ rfl rfl rfl
theorem q2j(s:St)(ao:Option Addr)(sb so c v:Nat)(w:World)(l:z1R w ao sb so s.W)(r:St×Int)(q:z0j s=true)(f:v<6)(h1:(s.V v).dead=true->r=(s,15))(h2:(s.V v).dead=false->r=((z2V s v true true),0)) :
  Calls prog 151 #[J4 (stC s (J1 ao s.W.length c)),J I (v:Int)] w fun e w'=>e=.returned (.tuple #[J4 (stC r.1 (J1 ao s.W.length c)),J I r.2])/\Bl w w':=by
 have g:=(SAt.new w (stC s (J1 ao s.W.length c))).alloc (J5 Z63 32);have h:=SAt.new2 w (J5 (stC s (J1 ao s.W.length c)) 32) Z63;have i:Hid (Bl w ((w.alloc (J5 (stC s (J1 ao s.W.length c)) 32)).alloc (J5 Z63 32))):=(znw w _).alloc (by simp) _
 have t:=J6 l;have j:=J6 h1;have k:=J6 h2;have u:=z1X q f;have x:(v:Int)<6:=by omega
 have y:(0:Int)<=(v:Int):=by omega
 clear l h1 h2
 go_enter func151,ntmps151
 go_upto_region 1 with fail
 change Code.wp prog _ _ _ ((w.alloc (J5 (stC s (J1 ao s.W.length c)) 32)).alloc (J5 Z63 32));generalize (w.alloc (J5 (stC s (J1 ao s.W.length c)) 32)).alloc (J5 Z63 32)=w0 at *
 go_upto_region 2 with (go_at_call 144;refine (z1T s ao sb so c w.heap.size v _ g (by exact t.out.over i.out)).mono ?_;rintro e w1⟨rfl,h1⟩)
 have a:=J6 (zbt i.out h1);have b:=g.later h1 g.lt;have d:=h.later h1 h.lt;clear g h h1 i;obtain⟨c0,c1,c2,c3,C⟩:=b.val v f;have z:w.heap.size+1<w1.heap.size:=d.lt;clear c0 c1 c2
 go_upto_region 7 with (first | ((fail_if_success (go_not_at_region 6));apply wp_region_lit;refine wpList_load_mid rfl 32 _ rfl _ 0 rfl _ _ b.range underlying32 rfl (by rw[z0l];rfl) ?_;refine wpList_store_mid rfl 32 _ _ rfl _ 0 (stC s (J1 ao s.W.length c)) rfl rfl (d.there 0 _ (by rw[z0p,z0d];omega)) (by rw[z0l];rfl) (z0q _ _ _ _) ?_))
 ·exact z1a results151 d rfl a.out (by omega) s _ _ r (j.out ‹(s.V v).dead=true›) _ rfl rfl rfl
 ·have A:=J6 (k.out ‹(s.V v).dead=false›);have f0:=b.free (7+v * 5+3);have f1:=b.free (7+v * 5+4);have m:=b.set (7+v * 5+3) (J3 true);rw[q4P _ _ v f]at m;have n:=m.set (7+v * 5+4) (J3 true);rw[q8b _ _ v f]at n;have o:SAt ((w1.setCell ⟨w.heap.size,7+v * 5+3,none⟩ (J3 true)).setCell ⟨w.heap.size,7+v * 5+4,none⟩ (J3 true)) (w.heap.size+1) Z63:=((d.other (by omega) (J3 true):SAt _ _ _).other (by omega) (J3 true):SAt _ _ _)
  have B:=J6 ((a.out.setCell (p:=⟨w.heap.size,7+v * 5+3,none⟩) (Nat.le_refl _) (J3 true)).setCell (p:=⟨w.heap.size,7+v * 5+4,none⟩) (Nat.le_refl _) (J3 true));clear b d a
  go_upto_region 8 with fail
  generalize ((w1.setCell ⟨w.heap.size,7+v * 5+3,none⟩ (J3 true)).setCell ⟨w.heap.size,7+v * 5+4,none⟩ (J3 true))=w9 at *;apply wp_region_lit;refine wpList_load_mid rfl 32 _ rfl _ 0 rfl _ _ n.range underlying32 rfl (by rw[z0l];rfl) ?_
  refine wpList_store_mid rfl 32 _ _ rfl _ 0 (stC (z2V s v true true) (J1 ao s.W.length c)) rfl rfl (o.there 0 _ (by rw[z0p,z0d];omega)) (by rw[z0l];rfl) (z0q _ _ _ _) ?_
  go_wp2;exact z1a results151 o rfl B.out (by omega) (z2V s v true true) (J1 ao s.W.length c) 0 r A.out _ rfl rfl rfl
theorem q4y(s:St)(ao:Option Addr)(sb so c:Nat)(v:Int)(w:World)(a:z1R w ao sb so s.W) :
  Calls prog 151 #[J4 (stC s (J1 ao s.W.length c)),J I v] w fun e w'=>e=.returned (.tuple #[J4 (stC (z6d s v).1 (J1 ao s.W.length c)),J I (z6d s v).2])/\Bl w w':=by
 by_cases h:z4W s v=0
 ·obtain⟨b,v0,v1⟩:=z7W h;obtain⟨v,rfl⟩:=Int.eq_ofNat_of_zero_le v0;exact q2j s ao sb so c v w a _ b (by omega) (fun h1=>by rw[z6d,if_pos h];exact if_pos h1) (fun h1=>by rw[z6d,if_pos h];exact if_neg (by simp[h1]))
 ·exact q6i s ao sb so c v w a _ h (by unfold z6d;exact if_neg h)
theorem q9P(w:World)(a:Option Addr)(n c:Nat):(binOp .eql 30 (J1 a n c) (J1 none 0 0)).run prog w=.ok (J3 a.isNone) w:=by
 simp[binOp,run_equal_slice_nil w 30 127 a n c underlying30]
theorem q3Z(c:Nat)(w:World):Calls prog 146 #[J1 none 0 c] w fun e w'=>e=.returned (J1 none 0 0)/\w=w':=by
 have hq:=fun w=>q9P w none 0 c
 go_enter func146,ntmps146
 go_wp2;go_ret;exact⟨rfl,rfl⟩
theorem q7M(W:List Wt):∀ u∈wsL W,u.oneCell'=true:=by
 intro u hu;obtain⟨x,_,a⟩:=List.mem_flatMap.1 hu
 simp[wtL]at a
 rcases a with rfl | rfl | rfl | rfl | rfl | rfl | rfl | rfl <;> rfl
theorem q7t(w:World):(w.alloc (J5 #[] 127)).ownsRow w.heap.size 127 8 (J1 (some ⟨w.heap.size,0,none⟩) 0 0) 0 []:=⟨rfl,.inr ⟨w.heap.size,0,#[],rfl,Nat.le_refl _,heap_alloc_new _ _,Nat.le_refl _,Nat.zero_le _,rfl,rfl⟩⟩
theorem q5g(w:World)(a:Addr)(c sb so:Nat)(W:List Wt)(e:z1R w (some a) sb so W) :
  ∃ A C w',(Builtin.append_ #[30,30] 30 #[J1 (some ⟨w.heap.size,0,none⟩) 0 0,J1 (some a) W.length c]).run prog (w.alloc (J5 #[] 127))=.ok (J1 A W.length C) w'/\z1k w.heap.size w' A C W/\Bl w w':=by
 obtain⟨n,o,f,h,i⟩:=info_parts q4k;have hl:=e.len
 obtain⟨p,w',q,l,b,-,r⟩:=run_append_own_at (P:=prog) (w.alloc (J5 #[] 127)) w.heap.size 30 30 127 n _ 8 64 underlying30 o f h i rfl (by omega) _ 0 [] (q7t w) a W.length c (wsL W) (z2m W)
  (fun j u m=>by
   have h0:0<W.length:=by
    have:=(List.getElem?_eq_some_iff.1 m).1;rw[z2m]at this;omega
   have s:=e.adr h0;cases s;rw[Addr.add_lit]
   exact q0x (e.over (znw w _)) j u m) (q7M W) (by simp only[maxLen];omega) (by omega) (by simp)
 rw[Nat.zero_add,List.nil_append]at l
 have t:∃ A C,p=J1 A W.length C:=by
  rcases l.2 with⟨rfl,h0⟩ | ⟨g,cap,cur,rfl,_⟩
  ·rw[h0];exact⟨none,0,rfl⟩
  ·exact⟨_,_,rfl⟩
 obtain⟨A,C,rfl⟩:=t;refine⟨A,C,w',q,l,?_⟩;have d:=(Below.refl w.heap.size w).alloc (Nat.le_refl _) (J5 #[] 127);exact⟨b.os.trans d.os,b.tape.trans d.tape,b.output.trans d.output,Nat.le_trans d.size b.size,fun k v=>(b.block k (by simp;omega) (by simp[Value.ownBlock];omega)).trans (d.block k v)⟩
theorem q3q{ops:Array Oper}{rest:List Oper}{o:Oper}{a:Act}{w:World}{Q:Exit->Act->World->Prop}(g:o.guard=none)(b:o.type=30)(p q:Operand)
  (d:o.op=Op.call { callee:=Callee.builtin Builtin.append,args:=#[p,q],argTypes:=#[30,30] }) (e:Addr) (c sb so:Nat) (W:List Wt) (h:a.eval p=J1 (some ⟨w.heap.size,0,none⟩) 0 0) (i:a.eval q=J1 (some e) W.length c) (j:z1R w (some e) sb so W)
  (k:∀ A C w',z1k w.heap.size w' A C W/\Bl w w'->wpList prog ops Q rest (a.put o.dst (J1 A W.length C)) w'):wpList prog ops Q (o :: rest) a (w.alloc (J5 #[] 127)):=by
 refine wpList_plain g fun _ f=>?_;unfold Oper.wp;obtain⟨A,C,w',l,h1⟩:=q5g w e c sb so W j
 simp[execOp,d,resolve,invoke,builtin,h,i,b,l,Result.andThen]
 exact f _ _ (k _ _ _ h1)
theorem q1i(a:Addr)(W:List Wt)(c sb so:Nat)(w:World)(b:z1R w (some a) sb so W):Calls prog 146 #[J1 (some a) W.length c] w fun e w'=>∃ A C,e=.returned (J1 A W.length C)/\z1k w.heap.size w' A C W/\Bl w w':=by
 have hq:=fun w=>q9P w (some a) W.length c
 go_enter func146,ntmps146
 go_upto_region 3 with fail
 apply wp_region_lit
 iterate 6 go_step
 refine q3q rfl rfl _ _ rfl a c sb so W rfl rfl b ?_;rintro A C w'⟨h1,h2⟩;have d:=J6 h1;have f:=J6 h2;clear h1 h2;go_wp2;go_ret;exact⟨A,C,rfl,d.out,f.out⟩
theorem z5O(ao:Option Addr)(W:List Wt)(c sb so:Nat)(w:World)(b:z1R w ao sb so W):Calls prog 146 #[J1 ao W.length c] w fun e w'=>∃ A C,e=.returned (J1 A W.length C)/\z1k w.heap.size w' A C W/\Bl w w':=by
 cases ao with
 | some a=>exact q1i a W c sb so w b
 | none =>
  have h0:W.length=0:=by
   rcases Nat.eq_zero_or_pos W.length with h0 | h0
   ·exact h0
   ·have:=b.adr h0;cases this
  obtain rfl:W=[]:=List.length_eq_zero_iff.1 h0;refine (q3Z c w).mono ?_;rintro e w'⟨rfl,rfl⟩;exact⟨none,0,rfl,⟨rfl,.inl ⟨rfl,rfl⟩⟩,Below.refl _ _⟩
end
section
theorem swap_perm:∀ (l:List Pw) (p:Nat),p+1<l.length->(swapAt l p).Perm l
 | [],_,h=>by simp at h
 | [_],_,h=>by simp at h
 | a :: b :: t,0,_=>by
  have e:swapAt (a :: b :: t) 0=b :: a :: t:=by simp[swapAt]
  rw[e];exact List.Perm.swap a b t
 | a :: b :: t,p+1,h=>by
  have e:swapAt (a :: b :: t) (p+1)=a :: swapAt (b :: t) p:=by simp[swapAt]
  rw[e];exact (swap_perm (b :: t) p (by simp at h ⊢;omega)).cons a
theorem q2H(l:List Pw)(p:Nat)(h:p+1<l.length)(i:Nat):(swapAt l p).getD i pz=if i=p then l.getD (p+1) pz else if i=p+1 then l.getD p pz else l.getD i pz:=by
 unfold swapAt;simp only[List.getD_eq_getElem?_getD,List.getElem?_set,List.length_set]
 by_cases h1:i=p
 ·subst h1;simp[show i<l.length by omega]
 ·by_cases h2:i=p+1
  ·subst h2;simp[h]
  ·rw[if_neg (by omega),if_neg (by omega),if_neg h1,if_neg h2]
def Srt(lt:Pw->Pw->Bool)(l:List Pw)(m:Nat):Prop:=∀ i j,i<j->j<m->lt (l.getD j pz) (l.getD i pz)=false
structure Ord(lt:Pw->Pw->Bool):Prop where
 asym:∀ a b,lt a b=true->lt b a=false
 trans:∀ a b c,lt b a=false->lt c b=false->lt c a=false
theorem q3j{lt:Pw->Pw->Bool}(o:Ord lt):∀ (p:Nat) (l:List Pw) (m:Nat),p<m->m<=l.length->(∀ i j,i<j->j<m->j≠p->lt (l.getD j pz) (l.getD i pz)=false)->Srt lt (z5X lt p l) m
 | 0,l,m,_,_,h=>fun i j a c=>h i j a c (by omega)
 | p+1,l,m,hp,hm,h=>by
  rw[z5X]
  split
  ·rename_i hlt;refine q3j o p _ m (by omega) (by rw[z2p];exact hm) fun i j a c d=>?_
   have e:=q2H l p (by omega)
   rw[e j,e i]
   by_cases h1:j=p+1
   ·subst h1;rw[if_neg (by omega),if_pos rfl]
    by_cases h2:i=p
    ·subst h2;rw[if_pos rfl];exact o.asym _ _ hlt
    ·rw[if_neg h2,if_neg (by omega)];exact h i p (by omega) (by omega) (by omega)
   ·rw[if_neg d,if_neg h1]
    by_cases h2:i=p
    ·subst h2;rw[if_pos rfl];exact h _ j (by omega) c h1
    ·rw[if_neg h2]
     by_cases h3:i=p+1
     ·subst h3;rw[if_pos rfl];exact h p j (by omega) c h1
     ·rw[if_neg h3];exact h i j a c h1
  ·rename_i hlt;have b:lt (l.getD (p+1) pz) (l.getD p pz)=false:=by simpa using hlt
   intro i j a c
   by_cases h1:j=p+1
   ·subst h1
    by_cases h2:i=p
    ·subst h2;exact b
    ·exact o.trans _ _ _ (h i p (by omega) (by omega) (by omega)) b
   ·exact h i j a c h1
theorem q0p(lt:Pw->Pw->Bool):∀ (p:Nat) (l:List Pw),p<l.length->(z5X lt p l).Perm l
 | 0,_,_=>List.Perm.refl _
 | p+1,l,h=>by
  rw[z5X]
  split
  ·exact (q0p lt p _ (by rw[z2p];omega)).trans (swap_perm l p h)
  ·exact List.Perm.refl _
theorem z6l{lt:Pw->Pw->Bool}(o:Ord lt)(l:List Pw):∀ k,k<l.length->Srt lt (z1l lt l k) (k+1)
 | 0,_=>fun i j a b=>by omega
 | k+1,h=>by
  rw[z1l];exact q3j o (k+1) _ (k+2) (by omega) (by rw[z1z];omega) fun i j a b c=>z6l o l k (by omega) i j a (by omega)
theorem z5I(lt:Pw->Pw->Bool)(l:List Pw):∀ k,k<l.length->(z1l lt l k).Perm l
 | 0,_=>List.Perm.refl _
 | k+1,h=>by
  rw[z1l];exact (q0p lt (k+1) _ (by rw[z1z];exact h)).trans (z5I lt l k (by omega))
theorem z1g(lt:Pw->Pw->Bool)(l:List Pw):(z1D lt l).Perm l:=by
 unfold z1D
 rcases Nat.eq_zero_or_pos l.length with h | h
 ·rw[h];exact List.Perm.refl _
 ·exact z5I lt l _ (by omega)
theorem z8e{lt:Pw->Pw->Bool}(o:Ord lt)(l:List Pw):Srt lt (z1D lt l) l.length:=by
 unfold z1D
 rcases Nat.eq_zero_or_pos l.length with h | h
 ·intro i j a b;omega
 ·have:=z6l o l (l.length - 1) (by omega)
  rwa [show l.length - 1+1=l.length by omega]at this
theorem q4c(a b:Pw):ltV a b=true↔a.1<b.1:=by
 unfold ltV q4L q4M;rw[decide_eq_true_eq]
 split
 ·simp_all
 ·split <;> simp_all <;> omega
theorem z7y(a b:Pw):ltP a b=true↔b.2<a.2∨(a.2=b.2/\a.1<b.1):=by
 unfold ltP q7R q4L q4M;rw[decide_eq_true_eq]
 repeat' split
 all_goals (constructor <;> intro h <;> first | omega | (exfalso;omega) | exact absurd h (by decide))
theorem q4h(a b:Pw):ltV a b=false↔¬ a.1<b.1:=by rw[<- q4c,Bool.not_eq_true]
theorem q0e(a b:Pw):ltP a b=false↔¬ (b.2<a.2∨(a.2=b.2/\a.1<b.1)):=by rw[<- z7y,Bool.not_eq_true]
theorem j1d:Ord ltV:=⟨fun a b h=>by rw[q4h];rw[q4c]at h;omega,fun a b c h1 h2=>by rw[q4h]at *;omega⟩
theorem j1h:Ord ltP:=⟨fun a b h=>by rw[q0e];rw[z7y]at h;omega,fun a b c h1 h2=>by rw[q0e]at *;omega⟩
theorem z4i(V:Nat->Vd)(x:Pw):∀ k,x∈z2G V k↔∃ i:Nat,i<k/\x=((i:Int),pwr (V i))/\0<pwr (V i)/\(V i).jail=false
 | 0=>by simp[z2G]
 | k+1=>by
  rw[z2G];have b:=z4i V x k
  split
  ·rename_i h;simp only[Bool.and_eq_true,decide_eq_true_eq,Bool.not_eq_true']at h;rw[List.mem_append,b,List.mem_singleton]
   constructor
   ·rintro (⟨i,a,h1⟩ | rfl)
    ·exact⟨i,by omega,h1⟩
    ·exact⟨k,by omega,rfl,h.1,h.2⟩
   ·rintro⟨i,a,h1⟩
    rcases Nat.lt_or_ge i k with h2 | h2
    ·exact .inl ⟨i,h2,h1⟩
    ·obtain rfl:i=k:=by omega
     exact .inr h1.1
  ·rename_i h;simp only[Bool.and_eq_true,decide_eq_true_eq,Bool.not_eq_true']at h;rw[b]
   constructor
   ·rintro⟨i,a,h1⟩;exact⟨i,by omega,h1⟩
   ·rintro⟨i,a,h1⟩
    rcases Nat.lt_or_ge i k with h2 | h2
    ·exact⟨i,h2,h1⟩
    ·obtain rfl:i=k:=by omega
     exact absurd h1.2 h
theorem z3p(V:Nat->Vd):∀ k,(z2G V k).Pairwise (fun a b=>a.1≠b.1)
 | 0=>List.Pairwise.nil
 | k+1=>by
  rw[z2G]
  split
  ·rw[List.pairwise_append];refine⟨z3p V k,List.pairwise_singleton _ _,fun a c b d=>?_⟩;rw[z4i]at c;obtain⟨i,e,rfl,_⟩:=c;rw[List.mem_singleton]at d;subst d
   show (i:Int)≠(k:Int)
   omega
  ·exact z3p V k
theorem q2V(V:Nat->Vd)(x:Pw):x∈z4Y V↔x∈(z1D ltP (z2G V 6)).take 4:=(z1g _ _).mem_iff
theorem q8W(V:Nat->Vd)(x:Pw)(h:x∈z4Y V):∃ i:Nat,i<6/\x=((i:Int),pwr (V i))/\0<pwr (V i)/\(V i).jail=false:=by
 rw[q2V]at h;exact (z4i V x 6).1 ((z1g _ _).mem_iff.1 (List.mem_of_mem_take h))
end
end Go.Proofs.YtjghbciepinofaaGreat
