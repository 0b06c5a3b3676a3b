/- Parts of the proof. -/
import Derived.Test.YtjghbciepinofaaGreatPL
import Derived.Test.YtjghbciepinofaaGreatPK23
import Derived.Test.YtjghbciepinofaaGreatPK31
set_option maxRecDepth 100000
set_option maxHeartbeats 16000000
namespace Go.Proofs.YtjghbciepinofaaGreat
open Go.Proofs.Tryz
open Value renaming int->J,slice->J1,pointer->J2,bool->J3,agg->J4
open IntKind renaming i64->I
open Obj renaming cells->J5
namespace Pv
open Go.RowKit
theorem q8C{P:Nat->Prop}{w:World}{s:St}{u:Value}(hu:Rep P w u 8 64 (wsL s.W))(c:Nat)(j:c<2)(h:Int)(i:z0j s=true):Calls prog 96 #[J4 (stC s u),J I (c:Int),J I h] w fun e w'=>∃ g,e=.returned (J4 (stC { s with W:=z5g c h s.W } g))/\Rep (fun b=>w.heap.size<=b) w' g 8 64 (wsL (z5g c h s.W))/\Bl w w':=by
 obtain⟨A,C,b,o,rfl,W,-,-⟩:=hu.z8v;have hl:=z2T i
 rcases (show c=0∨c=1 by omega) with rfl | rfl
 ·refine (q0V s A b o C h w W).mono ?_;rintro e w'⟨A',C',rfl,h1,f⟩;have a:(s.W.map (z2c 0 h)).length=s.W.length:=List.length_map _;have d:=z1k.rep h1 (by rw[a];exact hl)
  rw[a]at d;exact⟨_,rfl,d,f⟩
 ·refine (q1A s A b o C h w W).mono ?_;rintro e w'⟨A',C',rfl,h1,f⟩;have a:(s.W.map (z2c 1 h)).length=s.W.length:=List.length_map _;have d:=z1k.rep h1 (by rw[a];exact hl)
  rw[a]at d;exact⟨_,rfl,d,f⟩
def q8v(P:Nat->Prop)(w:World)(q0:Value)(r:Pr×Bool)(e:Ending)(w':World):Prop:=∃ a,e=.returned (.tuple #[J4 (prC r.1 a),J3 r.2])/\z2N (New P w 3) w' r.1 a/\a.q=q0/\Bl w w'
theorem z3o{f:Func}{t q:Tmp}(c:f.results=#[.cell t 47,.tmp q]){P:Nat->Prop}{w wq:World}{e:Array Value}(R:CAt 47 wq (w.heap.size+2) e)(g:e.size=97)(H:Bl w wq)(d:Pr)(a:PrV)(b:Bool)(r:Pr×Bool)(i:r=(d,b))(j:z2N (New P w 3) wq d a)(q0:Value)(hq:a.q=q0)(act:Act)
  (k:act.tmps.getD t undef=J2 (some ⟨w.heap.size+2,0,none⟩)) (l:act.tmps.getD q undef=J3 b) (hd:act.defers=[]) :
  bodyPost prog f (q8v P w q0 r) Exit.ret act (wq.setCells (w.heap.size+2) 0 (prC d a).toList):=by
 subst i;have m:=R.z0C (ds:=prC d a) (by rw[g];rfl)
 refine bodyPost_ret (v:=.tuple #[J4 (prC d a),J3 b]) (z4s c _ _ _ _ _ k l m rfl) hd ⟨a,rfl,j.sets (fun h=>?_) _ _,hq,z0b (by omega) _ _ _ H⟩
 rcases h with⟨_,h⟩ | h <;> omega
structure z8z(P:Nat->Prop)(w:World)(p:Pr)(v:PrV)(c:Nat)(x:Pkt)(y1 y2:Value)(wx:World):Prop where
 C:CAt 47 wx w.heap.size (prC p v)
 K:CAt 79 wx (w.heap.size+1) #[J I (c:Int),J I x.k,J I x.i,J I x.v,J I x.n,y1,y2]
 R:CAt 47 wx (w.heap.size+2) zeroCells47
 B:Bl w wx
 U0:z2N (New P w 3) wx p v
theorem New.no{P:Nat->Prop}{w:World}{j g:Nat}(h0:w.heap.size<=g)(h1:g<w.heap.size+j):¬ New P w j g:=fun h=>by
 rcases h with⟨_,h⟩ | h <;> omega
theorem z8z.over{P:Nat->Prop}{w:World}{p:Pr}{v:PrV}{c:Nat}{x:Pkt}{y1 y2:Value}{wx w':World}(h:z8z P w p v c x y1 y2 wx)(a:Bl wx w'):z8z P w p v c x y1 y2 w':=⟨h.C.over a,h.K.over a,h.R.over a,zbt h.B a,h.U0.over a⟩
theorem z8z.new{P:Nat->Prop}{w:World}{p:Pr}{v:PrV}(a:z2N P w p v)(c:Nat)(x:Pkt)(y1 y2:Value):z8z P w p v c x y1 y2 (((w.alloc (J5 (prC p v) 47)).alloc (J5 #[J I (c:Int),J I x.k,J I x.i,J I x.v,J I x.n,y1,y2] 79)).alloc (J5 zeroCells47 47)):=by
 have B:Bl w (((w.alloc (J5 (prC p v) 47)).alloc (J5 #[J I (c:Int),J I x.k,J I x.i,J I x.v,J I x.n,y1,y2] 79)).alloc (J5 zeroCells47 47)):=((znw w _).alloc (by simp) _).alloc (by simp;omega) _
 refine⟨((CAt.new _ w _).alloc _).alloc _,(CAt.new2 _ w _ _).alloc _,?_,B,a.z2w B 3⟩;have h:=CAt.new 47 ((w.alloc (J5 (prC p v) 47)).alloc (J5 #[J I (c:Int),J I x.k,J I x.i,J I x.v,J I x.n,y1,y2] 79)) zeroCells47;rw[show ((w.alloc (J5 (prC p v) 47)).alloc (J5 #[J I (c:Int),J I x.k,J I x.i,J I x.v,J I x.n,y1,y2] 79)).heap.size=w.heap.size+2 by simp]at h
 exact h
theorem z8z.z0I{P:Nat->Prop}{w:World}{p:Pr}{v:PrV}{c:Nat}{x:Pkt}{y1 y2:Value}{wx:World}(h:z8z P w p v c x y1 y2 wx)(s:St)(u:Value)(hu:Rep (New P w 3) wx u 8 64 (wsL s.W)):z8z P w { p with s:=s } { v with ws:=u } c x y1 y2 (wx.setCells w.heap.size 2 (stC s u).toList):=by
 have b:¬ New P w 3 w.heap.size:=New.no (Nat.le_refl _) (by omega)
 have a:=h.U0.sets b 2 (stC s u).toList;exact⟨h.C.z0I s u,h.K.others (by omega) _,h.R.others (by omega) _,z0b (Nat.le_refl _) _ _ _ h.B,hu.sets b _ _,a.set,a.lk,a.q⟩
attribute [local go_sem ↓] z0O z1c z0J z0L
set_option maxRecDepth 1000000 in
theorem z6Y(p:Pr)(v:PrV)(P:Nat->Prop)(w:World)(c:Nat)(hc:c<2)(x:Pkt)(y1 y2:Value)(Q:z2N P w p v)(j:z0j p.s=true)(y:x.k=2)(n:Nat)(S:x.v=(n:Int))(z:n<6)(a:∃ A m C,y1=J1 A m C)(s2:∃ A m C,y2=J1 A m C) :
  Calls prog 48 #[J4 (prC p v),J4 #[J I (c:Int),J I x.k,J I x.i,J I x.v,J I x.n,y1,y2]] w (q8v P w v.q (z0y p c x)):=by
 have T:z0y p c x=({ p with s:={ p.s with W:=z5g c x.i p.s.W } },true):=by unfold z0y;rw[if_pos y]
 rw[T];obtain⟨A1,D,C1,rfl⟩:=a;obtain⟨A2,E,C2,rfl⟩:=s2;have a0:(n:Int)<6:=by omega
 have a1:(0:Int)<=(n:Int):=by omega
 have HP:=J6 Q;have HG:=J6 j;have l:=J6 y;have F:=J6 S;clear T Q y S j
 go_enter func48,ntmps48
 go_upto_region 1 with fail
 change Code.wp prog _ _ _ (((w.alloc (J5 (prC p v) 47)).alloc (J5 #[J I (c:Int),J I x.k,J I x.i,J I x.v,J I x.n,J1 A1 D C1,J1 A2 E C2] 79)).alloc (J5 zeroCells47 47));have D0:=z8z.new HP.out c x (J1 A1 D C1) (J1 A2 E C2);generalize ((w.alloc (J5 (prC p v) 47)).alloc (J5 #[J I (c:Int),J I x.k,J I x.i,J I x.v,J I x.n,J1 A1 D C1,J1 A2 E C2] 79)).alloc (J5 zeroCells47 47)=w0 at *;have k3:w0.cell? ⟨w.heap.size+1,3,none⟩=some (J I (n:Int)):=by rw[<- F.out];exact D0.K.cell 3
 have G:w0.cell? ⟨w.heap.size+1,1,none⟩=some (J I 2):=by rw[<- l.out];exact D0.K.cell 1
 obtain⟨t0,t1,t2,t3,t4⟩:=z8X D0.C z;have U:=D0.R.lt;have X:=J6 D0;clear D0
 go_upto_region 3 with fail
 have d:=X.out.over ((Below.refl w0.heap.size w0).alloc (Nat.le_refl _) (J5 #[J I (p.s.V n).tok,J I (p.s.V n).sh,J I (p.s.V n).lost,J3 (p.s.V n).jail,J3 (p.s.V n).dead] 26));clear X k3 G t0 t1 t2 t3 t4;generalize w0.alloc (J5 #[J I (p.s.V n).tok,J I (p.s.V n).sh,J I (p.s.V n).lost,J3 (p.s.V n).jail,J3 (p.s.V n).dead] 26)=w1 at *;have k0:w1.cell? ⟨w.heap.size+1,0,none⟩=some (J I (c:Int)):=d.K.cell 0;have G:w1.cell? ⟨w.heap.size+1,1,none⟩=some (J I 2):=by rw[<- l.out];exact d.K.cell 1
 have k2:w1.cell? ⟨w.heap.size+1,2,none⟩=some (J I x.i):=d.K.cell 2;have ls:=z1f d.C;have o:=q8C d.U0.ws c hc x.i HG.out;have f:=J6 o;have t:=J6 d;have Y:=d.R.lt;clear d o;generalize Z:({ p.s with W:=z5g c x.i p.s.W }:St)=a at *
 have H:Hid (z5g c x.i p.s.W=a.W):=by rw[Hid,<- Z]
 rw[H.out]at f;clear Z
 go_upto_region 5 with (go_at_call 96;refine f.out.mono ?_;rintro e w2⟨u,rfl,L,g⟩;clear ls;have sS:=z1x (t.out.over g).C (z0c _ _) (z0d a u) (z3h a L.one');have M:=J6 (show _/\_ from⟨L,g⟩);clear L g)
 have r:=(t.out.over M.out.2).z0I a u (M.out.1.mono fun b _ h=>.inr (by have:=t.out.R.lt;omega))
 clear sS t f M k0 G k2;generalize w2.setCells w.heap.size 2 (stC a u).toList=w3 at *;have l3:=z0t r.C (z0c _ _);have s3:=z0z r.R z0h (z0c { p with s:=a } { v with ws:=u }) (z2N.one r.U0)
 have N:=J6 r;clear r;go_wp2;exact z3o results48 N.out.R z0h N.out.B _ _ true _ rfl N.out.U0 _ rfl _ rfl rfl rfl
end Pv
namespace Pv
open Go.RowKit
def dnL(D:List Int)(v:Int)(k:Nat):List Int:=(six.take k).filter fun u=>decide (u=v) || decide (u∈D)
theorem q5i{k:Nat}(a:k<6):six.take (k+1)=six.take k ++ [(k:Int)]:=by
 rcases (show k=0∨k=1∨k=2∨k=3∨k=4∨k=5 by omega) with rfl | rfl | rfl | rfl | rfl | rfl <;> rfl
theorem q5O(D:List Int)(v:Int){k:Nat}(a:k<6):dnL D v (k+1)=if (decide ((k:Int)=v) || decide ((k:Int)∈D))=true then dnL D v k ++ [(k:Int)] else dnL D v k:=by
 unfold dnL;rw[q5i a,List.filter_append];cases h:(decide ((k:Int)=v) || decide ((k:Int)∈D))
 ·rw[List.filter_cons_of_neg (by simp[h]),List.filter_nil,List.append_nil];rfl
 ·rw[List.filter_cons_of_pos (by simp[h]),List.filter_nil];rfl
theorem q4t(D:List Int)(v:Int)(k:Nat):(dnL D v k).length<=k:=Nat.le_trans (List.length_filter_le _ _) (List.length_take_le _ _)
theorem q8a(D:List Int)(v:Int):dnL D v 6=z1F D v:=by rw[z5d];rfl
theorem q8m(w:World)(n:Int):∀ j u,([J I n]:List Value)[j]?=some u->(w.alloc (J5 #[J I n] 3)).cell? ((⟨w.heap.size,0,none⟩:Addr).add j)=some u:=fun j u hu=>by
 have a:=(List.getElem?_eq_some_iff.1 hu).1;obtain rfl:j=0:=by simpa using a
 rw[Addr.add_lit,(CAt.new 3 w #[J I n]).cell]
 simpa using hu
theorem q4G(a b:Int):(a == b)=decide (a=b):=by rw[Bool.eq_iff_iff];simp
def inB(D:List Int)(v u:Int)(m:Nat):Bool:=decide (u=v) || decide (u∈D.take m)
theorem q5N(D:List Int)(v u:Int):inB D v u 0=(u == v):=by unfold inB;rw[q4G];simp
theorem q8l(D:List Int)(v u:Int):inB D v u D.length=(decide (u=v) || decide (u∈D)):=by unfold inB;rw[List.take_length]
theorem z5o{D:List Int}{v u:Int}{m:Nat}(h:inB D v u m=true):inB D v u (m+1)=true:=by
 unfold inB at *;simp only[Bool.or_eq_true,decide_eq_true_eq]at *
 rcases h with h | h
 ·exact .inl h
 ·exact .inr ((List.take_subset_take_left D (Nat.le_succ m)) h)
theorem q2B{D:List Int}{v u z:Int}{m:Nat}(h:inB D v u m=false)(a:D[m]?=some z):inB D v u (m+1)=(z == u):=by
 unfold inB at *;simp only[Bool.or_eq_false_iff,decide_eq_false_iff_not]at h;rw[List.take_add_one,a,q4G,Bool.eq_iff_iff];simp only[Bool.or_eq_true,decide_eq_true_eq,List.mem_append,Option.toList_some,List.mem_singleton]
 constructor
 ·rintro (h1 | h1 | h1)
  ·exact absurd h1 h.1
  ·exact absurd h1 h.2
  ·exact h1.symm
 ·intro h1;exact .inr (.inr h1.symm)
noncomputable def dnC:Code:=z8O [1,1,1,1,1,1] (f48.body.getD .skip)
attribute [local go_sem ↓] z0O z1c z0J z0L
set_option maxRecDepth 1000000 in
theorem z6v(p:Pr)(v:PrV)(P:Nat->Prop)(w w1:World)(c:Nat)(hc:c<2)(x:Pkt)(y1 y2:Value)(n:Nat)(E:z8z P w p v c x y1 y2 w1)(D:Pr×Bool)(hD:D=({ p with L:=z3d p.L c { p.L c with done:=z1F (p.L c).done n } },true))(v0 v1 v5 v7 v8 v9 d5 d6 d7 d8 d9 e0 e1 e2 e3 e4 e5 e6 e7 e8 e9 f4 f5 f6 f7 f8 f9 g0 g1 g2 g3 g5 g6 g8 g9 h4 h5 h7 h8 h9 i1 i2 i3 i4 i5 i6 i7 i8 i9 j0 j1 j2 j3 j4 j5 j6 j7 j8 j9 k1 k2 k3 k4 k5 k6 k7 k8 k9 l4 l5 l6 l7 l9 m0 m1 m2 m3 m4 m5 m6 m7 m8 m9 n0 n1 n2 n3 n4 n5 n6 n7 n8 n9 o0 o1 o2 F G H M N Q S T U V W X Y Z a0 a1 a2 a3 a4 a5 a6 a7 a8 a9 b4 b5 b6 b7 b9 c4 c5 c6 c7 c8 c9:Value) :
  Code.wp prog dnC (bodyPost prog f48 (q8v P w v.q D)) ⟨List.toArray (v0 :: v1 :: (J2 (some ⟨w.heap.size,0,none⟩)) :: (J2 (some ⟨w.heap.size+1,0,none⟩)) :: (J2 (some ⟨w.heap.size+1+1,0,none⟩)) :: v5 :: (.int .i64 (n:Int)) :: v7 :: v8 :: v9 :: d5 :: d6 :: d7 :: d8 :: d9 :: e0 :: e1 :: e2 :: e3 :: e4 :: e5 :: e6 :: e7 :: e8 :: e9 :: f4 :: f5 :: f6 :: f7 :: f8 :: f9 :: g0 :: g1 :: g2 :: g3 :: g5 :: g6 :: g8 :: g9 :: h4 :: h5 :: h7 :: h8 :: h9 :: i1 :: i2 :: i3 :: i4 :: i5 :: i6 :: i7 :: i8 :: i9 :: j0 :: j1 :: j2 :: j3 :: j4 :: j5 :: j6 :: j7 :: j8 :: j9 :: k1 :: k2 :: k3 :: k4 :: k5 :: k6 :: k7 :: k8 :: k9 :: l4 :: l5 :: l6 :: l7 :: l9 :: m0 :: m1 :: m2 :: m3 :: m4 :: m5 :: m6 :: m7 :: m8 :: m9 :: n0 :: n1 :: n2 :: n3 :: n4 :: n5 :: n6 :: n7 :: n8 :: n9 :: o0 :: o1 :: o2 :: F :: G :: H :: M :: N :: Q :: S :: T :: U :: V :: W :: X :: Y :: Z :: a0 :: a1 :: a2 :: a3 :: a4 :: a5 :: a6 :: a7 :: a8 :: a9 :: b4 :: b5 :: b6 :: b7 :: b9 :: c4 :: c5 :: c6 :: c7 :: c8 :: c9 :: []),[]⟩ w1:=by
 obtain⟨i0,hi,o3,o4,o5⟩:=info_parts Ln.q1J
 conv=>arg 2;whnf
 have H1:=J6 E;have HD:=J6 hD;have p9:=E.R.lt;have k0:w1.cell? ⟨w.heap.size+1,0,none⟩=some (.int .i64 (c:Int)):=E.K.cell 0;obtain⟨Ad,o6,ed,sd,-,d0,-⟩:=(E.U0.lk c hc).done.open (z0M _) (by decide)
 have o7:=J6 d0;have o8:=J6 ed;have q8:(c:Int)<2:=by omega
 have q9:(0:Int)<=(c:Int):=by omega
 have r0:(p.L c).done.length<=17592186044404:=by omega
 clear E hD d0 ed sd;generalize o9:(p.L c).done=DD at *;clear o9
 go_upto_region 19 with fail
 go_loopw [10,98] (fun lv i wl=>∃ k:Nat,k<=6/\i=.int .i64 (k:Int)/\Hid (wl.ownsRow w1.heap.size 3 1 lv (dnL DD n k).length (inC (dnL DD n k)))/\Hid (Bl w1 wl)) (fun _ i _=>(6 - intOf i).toNat)
 case atStart=>exact⟨0,by omega,rfl,World.ownsRow_nil _ _ _ _,Below.refl _ _⟩
 case round =>
  obtain⟨k,hk,rfl,a,f⟩:=hrel;have e:=H1.out.over f.out;have r3:wr.cell? ⟨w.heap.size+1,0,none⟩=some (.int .i64 (c:Int)):=e.K.cell 0;have q5:wr.cell? ⟨w.heap.size,66+c * 14+5,none⟩=some (J1 Ad DD.length o6):=by rw[<- o8.out];exact (e.C.lk hc).facts.2.2.2.2.2.1
  have q4:=e.R.lt
  by_cases p7:k<6
  ·have r4:(k:Int)<6:=by omega
   have r5:(0:Int)<=(k:Int):=by omega
   have HC:=J6 (q5O DD n p7);have q6:=q4t DD n k;clear e
   go_upto_region 23 with fail
   have HZ:=J6 (q5N DD n k);have d1:=J6 (q8l DD n k)
   go_loop [12,111] (fun b j=>∃ m:Nat,m<=DD.length/\j=.int .i64 (m:Int)/\b=J3 (inB DD n k m)) (fun _ j=>DD.length - (intOf j).toNat)
   case atStart=>exact⟨0,Nat.zero_le _,rfl,by rw[HZ.out]⟩
   case round =>
    obtain⟨m,hm,rfl,rfl⟩:=hrel
    by_cases d2:m<DD.length
    ·have r6:(m:Int)<(DD.length:Int):=by omega
     have r7:(0:Int)<=(m:Int):=by omega
     obtain⟨bd,od,rfl,-,p8,hcell⟩:=o7.out (by omega)
     obtain⟨z,hz⟩:∃ z,DD[m]?=some z:=⟨_,List.getElem?_eq_getElem d2⟩;have gz:DD.getD m 0=z:=by simp[List.getD,hz]
     have p0:=z3f DD m d2;rw[gz]at p0;have cz:wr.cell? ⟨bd,od+m,none⟩=some (.int .i64 z):=(f.out.cell (p:=⟨bd,od+m,none⟩) p8).trans (hcell _ _ p0);clear hcell gz p0;cases g:inB DD n k m
     ·have HI:=J6 (q2B g hz);clear hz g;go_wp2
      go_round
      case rel=>exact⟨m+1,by omega,by go_num,by rw[HI.out]⟩
      case measure=>simp[intOf];omega
     ·have HI:=J6 (z5o g);clear hz g;go_wp2
      go_round
      case rel=>exact⟨m+1,by omega,by go_num,by rw[HI.out]⟩
      case measure=>simp[intOf];omega
    ·obtain rfl:m=DD.length:=by omega
     have d3:=d1.out;generalize inB DD n k DD.length=fl at *;rw[<- d3]at HC;clear d3 d1 HZ;have q7:w1.heap.size<=wr.heap.size:=f.out.size;cases fl
     ·have d:=J6 (HC.out.trans (if_neg (by simp)))
      go_wp2
      first | exact⟨⟨k+1,by omega,by go_num,by rw[d.out];exact a,f⟩,by simp[intOf];omega⟩ | ((repeat apply Exists.intro);exact⟨⟨k+1,by omega,by go_num,by rw[d.out];exact a,f⟩,rfl⟩) | (go_roundw;(case rel=>first | exact⟨k+1,by omega,by go_num,by rw[d.out];exact a,f⟩ | ((repeat apply Exists.intro);exact⟨⟨k+1,by omega,by go_num,by rw[d.out];exact a,f⟩,rfl⟩));(case measure=>simp[intOf];omega))
     ·have d:=J6 (HC.out.trans (if_pos rfl));have hown:=a.out
      go_wp2_with (at_builtin;refine wpList_append_own_at _ rfl _ _ 34 rfl w1.heap.size 3 i0 (.int .i64 0) 1 8 underlying34 hi o3 o4 o5 rfl (by decide) _ _ _ rfl (World.ownsRow.alloc hown _) ⟨wr.heap.size,0,none⟩ 1 1 [.int .i64 (k:Int)] rfl rfl (q8m _ _) (by intro u hu;simp at hu;subst hu;rfl) (by unfold maxLen;omega) (by omega) (by simp;omega) ?_;intro v' w2 l r _ r8)
      have hb:Bl w1 w2:=(f.out.alloc f.out.size _).grown r (by simp;omega) (fun x hx=>(World.ownsRow.lt hown x hx).1)
      have HR:Hid (w2.ownsRow w1.heap.size 3 1 v' (dnL DD n (k+1)).length (inC (dnL DD n (k+1)))):=by
       rw[Hid,d.out,List.length_append,show inC (dnL DD n k ++ [(k:Int)])=inC (dnL DD n k) ++ [.int .i64 (k:Int)] by simp[inC]]
       exact l
      exact⟨⟨k+1,by omega,by go_num,HR,hb⟩,by simp[intOf];omega⟩
  ·obtain rfl:k=6:=by omega
   have h6:=q4t DD n 6;have R6:=Rep.own (bts:=8) a.out (by omega)
   rw[q8a]at R6;have R7:Rep (New P w 3) wr u10 1 8 (inC (z1F DD n)):=R6.mono fun b _ h=>.inr (by have:=H1.out.R.lt;omega)
   obtain⟨t,y,A,rfl⟩:=R7.one';have fz:=e.C.free (66+c * 14+5);have d4:¬ New P w 3 w.heap.size:=New.no (Nat.le_refl _) (by omega)
   have C8:=e.C.set (66+c * 14+5) (J1 t y A);rw[q4w c hc (z1F DD n)]at C8;have I8:=q2l (e.U0.put d4 (66+c * 14+5) (J1 t y A)) c (z1F DD n) (J1 t y A) (R7.put d4 _ _);have R8:=e.R.other (c:=w.heap.size) (o:=66+c * 14+5) (by omega) (J1 t y A)
   have B8:=e.B.setCell (p:=⟨w.heap.size,66+c * 14+5,none⟩) (Nat.le_refl _) (J1 t y A);have s:=J6 (show _/\_/\_/\_ from⟨C8,I8,R8,B8⟩);clear C8 I8 R8 B8 R7 R6 e a
   go_upto_region 31 with fail
   generalize wr.setCell ⟨w.heap.size,66+c * 14+5,none⟩ (J1 t y A)=w8 at *;have l8:=z0t s.out.1 (z0c _ _);have s8:=z0z s.out.2.2.1 z0h (z0c _ _) (z2N.one s.out.2.1);have r9:=s.out.2.2.1.lt;go_wp2;exact z3o results48 s.out.2.2.1 z0h s.out.2.2.2 _ _ true _ HD.out s.out.2.1 _ rfl _ rfl rfl rfl
end Pv
namespace Pv
open Go.RowKit
def j0s(F:Value->Value->Act)(R:Value->Value->World->Prop)(ex:Exit)(a:Act)(w:World):Prop:=∃ u x,ex=Exit.normal/\a=F u x/\R u x w
theorem q5V{P:Program}{c:Code}{Q:Exit->Act->World->Prop}{a:Act}{w:World}(R:Value->Value->World->Prop)(F:Value->Value->Act)(h1:Code.wp P c (j0s F R) a w)(h2:∀ u x w',R u x w'->Q Exit.normal (F u x) w'):Code.wp P c Q a w:=
 Code.wp_mono (fun e b w' h=>by obtain⟨u,x,rfl,rfl,h⟩:=h;exact h2 u x w' h) h1
attribute [local go_sem ↓] z0O z1c z0J z0L
set_option maxRecDepth 1000000 in
theorem z7K(p:Pr)(v:PrV)(P:Nat->Prop)(w:World)(c:Nat)(hc:c<2)(x:Pkt)(y1 y2:Value)(hp:z2N P w p v)(M:z0j p.s=true)(hk:x.k=4)(n:Nat)(hn:x.v=(n:Int))(t:n<6)(j:∃ A m C,y1=J1 A m C)(y:∃ A m C,y2=J1 A m C) :
  Calls prog 48 #[J4 (prC p v),J4 #[.int .i64 (c:Int),.int .i64 x.k,.int .i64 x.i,.int .i64 x.v,.int .i64 x.n,y1,y2]] w (q8v P w v.q (z0y p c x)):=by
 have hD:z0y p c x=if (p.s.V n).dead=true then (p,true) else ({ p with s:=q0k p.s n (q4J x.i (p.L c).base) },true):=by unfold z0y;rw[if_neg (by omega),if_pos hk,hn,Int.toNat_natCast]
 generalize z0y p c x=D at *;have H:=J6 hD;obtain⟨A1,m1,C1,rfl⟩:=j;obtain⟨A2,m2,C2,rfl⟩:=y;have b7:(n:Int)<6:=by omega
 have b9:(0:Int)<=(n:Int):=by omega
 have HP:=J6 hp;have HG:=J6 M;have N:=J6 hk;have a2:=J6 hn;clear hD hp hk hn M
 go_enter func48,ntmps48
 go_upto_region 1 with fail
 change Code.wp prog _ _ _ (((w.alloc (J5 (prC p v) 47)).alloc (J5 #[.int .i64 (c:Int),.int .i64 x.k,.int .i64 x.i,.int .i64 x.v,.int .i64 x.n,J1 A1 m1 C1,J1 A2 m2 C2] 79)).alloc (J5 zeroCells47 47));have D0:=z8z.new HP.out c x (J1 A1 m1 C1) (J1 A2 m2 C2);generalize ((w.alloc (J5 (prC p v) 47)).alloc (J5 #[.int .i64 (c:Int),.int .i64 x.k,.int .i64 x.i,.int .i64 x.v,.int .i64 x.n,J1 A1 m1 C1,J1 A2 m2 C2] 79)).alloc (J5 zeroCells47 47)=w0 at *;have k3:w0.cell? ⟨w.heap.size+1,3,none⟩=some (.int .i64 (n:Int)):=by rw[<- a2.out];exact D0.K.cell 3
 have k1:w0.cell? ⟨w.heap.size+1,1,none⟩=some (.int .i64 4):=by rw[<- N.out];exact D0.K.cell 1
 obtain⟨t0,t1,t2,t3,t4⟩:=z8X D0.C t;have b4:=D0.R.lt;have H0:=J6 D0;clear D0
 go_upto_region 3 with fail
 have l:=H0.out.over ((Below.refl w0.heap.size w0).alloc (Nat.le_refl _) (J5 #[.int .i64 (p.s.V n).tok,.int .i64 (p.s.V n).sh,.int .i64 (p.s.V n).lost,J3 (p.s.V n).jail,J3 (p.s.V n).dead] 26));have X1:=CAt.new 26 w0 #[.int .i64 (p.s.V n).tok,.int .i64 (p.s.V n).sh,.int .i64 (p.s.V n).lost,J3 (p.s.V n).jail,J3 (p.s.V n).dead];clear H0 k3 k1 t0 t1 t2 t3 t4;generalize w0.alloc (J5 #[.int .i64 (p.s.V n).tok,.int .i64 (p.s.V n).sh,.int .i64 (p.s.V n).lost,J3 (p.s.V n).jail,J3 (p.s.V n).dead] 26)=w1 at *;have k1:w1.cell? ⟨w.heap.size+1,1,none⟩=some (.int .i64 4):=by rw[<- N.out];exact l.K.cell 1
 have x4:w1.cell? ⟨w0.heap.size,4,none⟩=some (J3 (p.s.V n).dead):=X1.cell 4;have b5:=l.R.lt;cases o:(p.s.V n).dead
 rotate_left
 ·rw[o]at x4;have l3:=z0t l.C (z0c _ _);have s3:=z0z l.R z0h (z0c p v) (z2N.one l.U0);have H3:=J6 l;replace H:=J6 (H.out.trans (if_pos o));clear l X1;go_wp2;exact z3o results48 H3.out.R z0h H3.out.B _ _ true _ H.out H3.out.U0 _ rfl _ rfl rfl rfl
 rw[o]at x4;replace H:=J6 (H.out.trans (if_neg (by simp[o])))
 have a3:Hid (q4J x.i (p.L c).base=if x.i<(p.L c).base then (p.L c).base else x.i):=rfl;generalize q4J x.i (p.L c).base=mx at *
 have Q:Hid (∀ wx,Bl w1 wx->(z7R (J2 (some ⟨w.heap.size,2,none⟩))).run prog wx=.ok (J4 (stC p.s v.ws)) wx/\wx.cell? ⟨w.heap.size+1,2,none⟩=some (.int .i64 x.i)/\wx.cell? ⟨w.heap.size+1,0,none⟩=some (.int .i64 (c:Int))/\wx.cell? ⟨w.heap.size,66+c * 14+2,none⟩=some (.int .i64 (p.L c).base)):=fun wx hb=>by
  have E:=l.over hb;exact⟨z1f E.C,E.K.cell 2,E.K.cell 0,(E.C.lk hc).facts.2.2.1⟩
 have T:=J6 (fun (wx:World) (hb:Bl w1 wx)=>q6o (l.over hb).U0.ws n mx HG.out t);have kg:=(z5i HG.out (v:=n) t mx (f:=50) (by decide)).good
 have U:((z0Q p.s n mx 50).V n).dead=false:=(z6i _ _ _).trans o;have a4:Hid ((q0k p.s n mx).W=(z0Q p.s n mx 50).W):=rfl;have a5:Hid (q0k p.s n mx=z2V (z0Q p.s n mx 50) n true true):=rfl;have X:=J6 (show _/\_ from⟨kg,U⟩);generalize q0k p.s n mx=y at *;generalize z0Q p.s n mx 50=j at *;have H1:=J6 l;clear l X1 kg U;have c4:(if x.i<(p.L c).base then (p.L c).base else x.i)=mx:=a3.out.symm;generalize (p.L c).base=bs at *;have c5:(c:Int)<2:=by omega
 have c6:(0:Int)<=(c:Int):=by omega
 go_upto_region 8 with fail
 apply q5V (fun u x' w'=>∃ g,w'=g.setCells w.heap.size 2 (stC j u).toList/\Bl w1 g/\Rep (fun b=>w1.heap.size<=b) g u 8 64 (wsL j.W))
 ·refine wp_region_noPanic ?_;have a6:Hid (∀ (g:World) (r:Value),Bl w1 g->(∃ A n C,r=J1 A n C)->∃ wS,wS=g.setCells w.heap.size 2 (stC j r).toList/\(z6s (J2 (some ⟨w.heap.size,2,none⟩)) (J4 (stC j r))).run prog g=.ok () wS):=fun g r b3 h3=>⟨_,rfl,z1x (H1.out.over b3).C (z0c _ _) (z0d j r) (z3h j h3)⟩;refine O.z3J (c:=13) (S:=fun wx=>Bl w1 wx) (by kernel_rfl) ?_
  have d:Bl w1 w1.drew:=(Below.refl _ _).drew;refine O.z1m (i:=0) (v:=(J2 (some ⟨w.heap.size,2,none⟩))) (some 45) rfl rfl (by kernel_rfl) (by kernel_rfl) (by kernel_rfl) (by kernel_rfl) (by decide) (fun _ _ _ h=>h) (Or.inl ⟨by rfl,fun wx a=>?_⟩) d ?_
  ·try dsimp only at a
   go_simp
  simp only[O.pp,O.pb,O.pc];refine O.z1m (i:=1) (v:=(J4 (stC p.s v.ws))) (some 46) rfl rfl (by kernel_rfl) (by kernel_rfl) (by kernel_rfl) (by kernel_rfl) (by decide) (fun _ _ _ h=>h) (Or.inl ⟨by rfl,fun wx a=>?_⟩) d ?_
  ·try dsimp only at a
   obtain⟨f1,f2,f3,f4⟩:=Q.out wx a;go_simp
  simp only[O.pp,O.pb,O.pc];refine O.z1m (i:=2) (v:=(.int .i64 (n:Int))) (some 47) rfl rfl (by kernel_rfl) (by kernel_rfl) (by kernel_rfl) (by kernel_rfl) (by decide) (fun _ _ _ h=>h) (Or.inl ⟨by rfl,fun wx a=>?_⟩) d ?_
  ·try dsimp only at a
   go_simp
  simp only[O.pp,O.pb,O.pc];refine O.z1m (i:=3) (v:=(J2 (some ⟨w.heap.size+1,1,none⟩))) (some 48) rfl rfl (by kernel_rfl) (by kernel_rfl) (by kernel_rfl) (by kernel_rfl) (by decide) (fun _ _ _ h=>h) (Or.inl ⟨by rfl,fun wx a=>?_⟩) d ?_
  ·try dsimp only at a
   go_simp
  simp only[O.pp,O.pb,O.pc];refine O.z1m (i:=4) (v:=(J2 (some ⟨w.heap.size+1,2,none⟩))) (some 49) rfl rfl (by kernel_rfl) (by kernel_rfl) (by kernel_rfl) (by kernel_rfl) (by decide) (fun _ _ _ h=>h) (Or.inl ⟨by rfl,fun wx a=>?_⟩) d ?_
  ·try dsimp only at a
   go_simp
  simp only[O.pp,O.pb,O.pc];refine O.z1m (i:=5) (v:=(.int .i64 x.i)) (some 50) rfl rfl (by kernel_rfl) (by kernel_rfl) (by kernel_rfl) (by kernel_rfl) (by decide) (fun _ _ _ h=>h) (Or.inl ⟨by rfl,fun wx a=>?_⟩) d ?_
  ·try dsimp only at a
   obtain⟨f1,f2,f3,f4⟩:=Q.out wx a;go_simp
  simp only[O.pp,O.pb,O.pc];refine O.z1m (i:=6) (v:=(J2 (some ⟨w.heap.size+1,0,none⟩))) (some 51) rfl rfl (by kernel_rfl) (by kernel_rfl) (by kernel_rfl) (by kernel_rfl) (by decide) (fun _ _ _ h=>h) (Or.inl ⟨by rfl,fun wx a=>?_⟩) d ?_
  ·try dsimp only at a
   go_simp
  simp only[O.pp,O.pb,O.pc];refine O.z1m (i:=7) (v:=(.int .i64 (c:Int))) (some 52) rfl rfl (by kernel_rfl) (by kernel_rfl) (by kernel_rfl) (by kernel_rfl) (by decide) (fun _ _ _ h=>h) (Or.inl ⟨by rfl,fun wx a=>?_⟩) d ?_
  ·try dsimp only at a
   obtain⟨f1,f2,f3,f4⟩:=Q.out wx a;go_simp
  simp only[O.pp,O.pb,O.pc];refine O.z1m (i:=8) (v:=(J2 (some ⟨w.heap.size,66,none⟩))) (some 53) rfl rfl (by kernel_rfl) (by kernel_rfl) (by kernel_rfl) (by kernel_rfl) (by decide) (fun _ _ _ h=>h) (Or.inl ⟨by rfl,fun wx a=>?_⟩) d ?_
  ·try dsimp only at a
   go_simp
  simp only[O.pp,O.pb,O.pc];refine O.z1m (i:=9) (v:=(J2 (some ⟨w.heap.size,66+c * 14,none⟩))) (some 54) rfl rfl (by kernel_rfl) (by kernel_rfl) (by kernel_rfl) (by kernel_rfl) (by decide) (fun _ _ _ h=>h) (Or.inl ⟨by rfl,fun wx a=>?_⟩) d ?_
  ·try dsimp only at a
   go_simp
  simp only[O.pp,O.pb,O.pc];refine O.z1m (i:=10) (v:=(J2 (some ⟨w.heap.size,66+c * 14+2,none⟩))) (some 55) rfl rfl (by kernel_rfl) (by kernel_rfl) (by kernel_rfl) (by kernel_rfl) (by decide) (fun _ _ _ h=>h) (Or.inl ⟨by rfl,fun wx a=>?_⟩) d ?_
  ·try dsimp only at a
   go_simp
  simp only[O.pp,O.pb,O.pc];refine O.z1m (i:=11) (v:=(.int .i64 bs)) (some 56) rfl rfl (by kernel_rfl) (by kernel_rfl) (by kernel_rfl) (by kernel_rfl) (by decide) (fun _ _ _ h=>h) (Or.inl ⟨by rfl,fun wx a=>?_⟩) d ?_
  ·try dsimp only at a
   obtain⟨f1,f2,f3,f4⟩:=Q.out wx a;go_simp
  simp only[O.pp,O.pb,O.pc];refine O.z1m (i:=12) (v:=(.int .i64 mx)) (some 57) rfl rfl (by kernel_rfl) (by kernel_rfl) (by kernel_rfl) (by kernel_rfl) (by decide) (fun _ _ _ h=>h) (Or.inl ⟨by rfl,fun wx a=>?_⟩) d ?_
  ·try dsimp only at a
   go_simp
  simp only[O.pp,O.pb,O.pc];refine O.z5H (by kernel_rfl) rfl (fun K Y=>?_)
  go_simp
  go_at_call 97
  refine (T.out _ (by exact d)).mono ?_
  rintro e g⟨r,x3,rfl,Z,a7⟩;replace d:=zbt d a7;obtain⟨wS,a0,c7⟩:=a6.out g r d Z.one';have a8:=J6 a0;clear a0;dsimp only;refine Y _ _ ?_;clear Y K
  try simp only[O.pp,O.pb,O.pc]
  refine O.z6w (i:=14) (v:=(.tuple #[J4 (stC j r),x3,.int .i64 0])) (some 44) rfl rfl (by kernel_rfl) (by kernel_rfl) (by kernel_rfl) (fun _ _ _ h=>h) (Or.inl ⟨by rfl,fun wx=>?_⟩) ?_
  ·go_simp
  simp only[O.pp,O.pb,O.pc];refine O.z6w (i:=15) (v:=(J4 (stC j r))) (some 59) rfl rfl (by kernel_rfl) (by kernel_rfl) (by kernel_rfl) (fun _ _ _ h=>h) (Or.inl ⟨by rfl,fun wx=>?_⟩) ?_
  ·go_simp
  simp only[O.pp,O.pb,O.pc];refine O.z6w (i:=16) (v:=x3) (some 60) rfl rfl (by kernel_rfl) (by kernel_rfl) (by kernel_rfl) (fun _ _ _ h=>h) (Or.inl ⟨by rfl,fun wx=>?_⟩) ?_
  ·go_simp
  simp only[O.pp,O.pb,O.pc];refine O.z6w (i:=17) (v:=(.int .i64 0)) (some 61) rfl rfl (by kernel_rfl) (by kernel_rfl) (by kernel_rfl) (fun _ _ _ h=>h) (Or.inl ⟨by rfl,fun wx=>?_⟩) ?_
  ·go_simp
  simp only[O.pp,O.pb,O.pc];refine O.z6w (i:=18) (v:=(J2 (some ⟨w.heap.size,2,none⟩))) (some 62) rfl rfl (by kernel_rfl) (by kernel_rfl) (by kernel_rfl) (fun _ _ _ h=>h) (Or.inl ⟨by rfl,fun wx=>?_⟩) ?_
  ·go_simp
  simp only[O.pp,O.pb,O.pc];refine O.z9D (i:=19) (by kernel_rfl) rfl rfl (fun K Y=>?_)
  go_simp;refine Y _ _ ?_;clear Y K;refine wpAny_done (by kernel_rfl) ?_ _
  exact NoPanic.normal ⟨r,x3,rfl,rfl,g,a8.out,d,Z⟩
 rintro u x3 w'⟨g,rfl,b3,Z⟩;have D4:=(H1.out.over b3).z0I j u (Z.mono fun b _ h=>.inr (by have:=H1.out.R.lt;omega))
 clear b3 Z k1 x4 Q T H1;generalize g.setCells w.heap.size 2 (stC j u).toList=w4 at *;have z:=q7J D4.U0.ws n X.out.1 t X.out.2;rw[<- a5.out]at z;have a1:=J6 z;have m4:=z1f D4.C;have H4:=J6 D4;have b6:=D4.R.lt;clear D4 z;simp only[Exit.then];apply_assumption
 go_upto_region 10 with (go_at_call 98;refine a1.out.mono ?_;rintro e w5⟨u5,rfl,U5,F⟩;clear m4;have a9:=z1x (H4.out.over F).C (z0c _ _) (z0d y u5) (z3h y U5.one');have G:=J6 (show _/\_ from⟨U5,F⟩);clear U5 F)
 have D6:=(H4.out.over G.out.2).z0I y u5 (by rw[a4.out];exact G.out.1.mono fun b _ h=>.inr (by have:=H4.out.R.lt;omega))
 clear a9 H4 a1 G;generalize w5.setCells w.heap.size 2 (stC y u5).toList=w6 at *;have l6:=z0t D6.C (z0c _ _);have s6:=z0z D6.R z0h (z0c { p with s:=y } { v with ws:=u5 }) (z2N.one D6.U0)
 have H6:=J6 D6;clear D6;go_wp2;exact z3o results48 H6.out.R z0h H6.out.B _ _ true _ H.out H6.out.U0 _ rfl _ rfl rfl rfl
end Pv
namespace Pv
open Go.RowKit
theorem z8z.q7E{P:Nat->Prop}{w:World}{p:Pr}{v:PrV}{c:Nat}{x:Pkt}{y1 y2:Value}{wx:World}(h:z8z P w p v c x y1 y2 wx)(m:Int):z8z P w { p with ml:=m } v c x y1 y2 ((wx.setCell ⟨w.heap.size,94,none⟩ (J I m)).setCell ⟨w.heap.size,95,none⟩ (J I p.mn)):=by
 have b:¬ New P w 3 w.heap.size:=New.no (Nat.le_refl _) (by omega)
 have a:=(h.U0.put b 94 (J I m)).put b 95 (J I p.mn);exact⟨(h.C.set 94 _).set 95 _,(h.K.other (by omega) _).other (by omega) _,(h.R.other (by omega) _).other (by omega) _,(h.B.setCell (p:=⟨w.heap.size,94,none⟩) (Nat.le_refl _) _).setCell (p:=⟨w.heap.size,95,none⟩) (Nat.le_refl _) _,a.ws,a.set,a.lk,a.q⟩
attribute [local go_sem ↓] z0O z1c z0J z0L
set_option maxRecDepth 1000000 in
theorem q1E(p:Pr)(v:PrV)(P:Nat->Prop)(w:World)(c:Nat)(hc:c<2)(x:Pkt)(y1 y2:Value)(hp:z2N P w p v)(N:z0j p.s=true)(hk:x.k=3)(n:Nat)(hn:x.v=(n:Int))(j:n<6)(r:∃ A m C,y1=J1 A m C)(s2:∃ A m C,y2=J1 A m C) :
  Calls prog 48 #[J4 (prC p v),J4 #[.int .i64 (c:Int),.int .i64 x.k,.int .i64 x.i,.int .i64 x.v,.int .i64 x.n,y1,y2]] w (q8v P w v.q (z0y p c x)):=by
 have hD:z0y p c x=if (p.s.V n).jail=true then ({ p with L:=z3d p.L c { p.L c with done:=z1F (p.L c).done n } },true) else if p.ml<1 then (p,false) else ({ p with ml:=wrap64 (p.ml - q4K (p.s.V n)),s:=z2V p.s n true (p.s.V n).dead,L:=z3d p.L c { p.L c with done:=z1F (p.L c).done n } },true):=by unfold z0y;rw[if_neg (by omega),if_neg (by omega),hn,Int.toNat_natCast]
 generalize z0y p c x=D at *;have HD:=J6 hD;obtain⟨A1,m1,C1,rfl⟩:=r;obtain⟨A2,m2,C2,rfl⟩:=s2;have c8:(n:Int)<6:=by omega
 have c9:(0:Int)<=(n:Int):=by omega
 have HP:=J6 hp;have HG:=J6 N;have Q:=J6 hk;have a2:=J6 hn;clear hD hp hk hn N
 go_enter func48,ntmps48
 go_upto_region 1 with fail
 change Code.wp prog _ _ _ (((w.alloc (J5 (prC p v) 47)).alloc (J5 #[.int .i64 (c:Int),.int .i64 x.k,.int .i64 x.i,.int .i64 x.v,.int .i64 x.n,J1 A1 m1 C1,J1 A2 m2 C2] 79)).alloc (J5 zeroCells47 47));have D0:=z8z.new HP.out c x (J1 A1 m1 C1) (J1 A2 m2 C2);generalize ((w.alloc (J5 (prC p v) 47)).alloc (J5 #[.int .i64 (c:Int),.int .i64 x.k,.int .i64 x.i,.int .i64 x.v,.int .i64 x.n,J1 A1 m1 C1,J1 A2 m2 C2] 79)).alloc (J5 zeroCells47 47)=w0 at *;have k3:w0.cell? ⟨w.heap.size+1,3,none⟩=some (.int .i64 (n:Int)):=by rw[<- a2.out];exact D0.K.cell 3
 have k1:w0.cell? ⟨w.heap.size+1,1,none⟩=some (.int .i64 3):=by rw[<- Q.out];exact D0.K.cell 1
 obtain⟨t0,t1,t2,t3,t4⟩:=z8X D0.C j;have b7:=D0.R.lt;have H0:=J6 D0;clear D0
 go_upto_region 3 with fail
 have o:=H0.out.over ((Below.refl w0.heap.size w0).alloc (Nat.le_refl _) (J5 #[.int .i64 (p.s.V n).tok,.int .i64 (p.s.V n).sh,.int .i64 (p.s.V n).lost,J3 (p.s.V n).jail,J3 (p.s.V n).dead] 26));have S:=CAt.new 26 w0 #[.int .i64 (p.s.V n).tok,.int .i64 (p.s.V n).sh,.int .i64 (p.s.V n).lost,J3 (p.s.V n).jail,J3 (p.s.V n).dead];clear H0 k3 k1 t0 t1 t2 t3 t4;generalize w0.alloc (J5 #[.int .i64 (p.s.V n).tok,.int .i64 (p.s.V n).sh,.int .i64 (p.s.V n).lost,J3 (p.s.V n).jail,J3 (p.s.V n).dead] 26)=w1 at *;have k1:w1.cell? ⟨w.heap.size+1,1,none⟩=some (.int .i64 3):=by rw[<- Q.out];exact o.K.cell 1
 have x3:w1.cell? ⟨w0.heap.size,3,none⟩=some (J3 (p.s.V n).jail):=S.cell 3;have x0:w1.cell? ⟨w0.heap.size,0,none⟩=some (.int .i64 (p.s.V n).tok):=S.cell 0;have b9:=o.R.lt;have c4:=S.lt;cases t:(p.s.V n).jail
 rotate_left
 ·rw[t]at x3;have f:=HD.out.trans (if_pos t);clear HD;have T:=J6 o;have a:=J6 f;clear o S f
  go_upto_region 11 with fail
  apply z2d (fun w'=>w'=w1)
  ·refine wp_region_noPanic ?_;go_wp2;exact NoPanic.normal ⟨rfl,rfl,rfl⟩
  rintro w' rfl;simp only[Exit.then];apply_assumption;refine wp_cond_false rfl ?_;refine wp_skip ?_;simp only[Exit.then];apply_assumption;exact z6v p v P w w' c hc x _ _ n T.out D a.out _ _ _ _ _ _ _ _ _ _ _ _ _ _ _ _ _ _ _ _ _ _ _ _ _ _ _ _ _ _ _ _ _ _ _ _ _ _ _ _ _ _ _ _ _ _ _ _ _ _ _ _ _ _ _ _ _ _ _ _ _ _ _ _ _ _ _ _ _ _ _ _ _ _ _ _ _ _ _ _ _ _ _ _ _ _ _ _ _ _ _ _ _ _ _ _ _ _ _ _ _ _ _ _ _ _ _ _ _ _ _ _ _ _ _ _ _ _ _ _ _ _ _ _ _ _ _ _ _ _ _
 rw[t]at x3;have f:=HD.out.trans (if_neg (by simp[t]))
 clear HD;obtain⟨a3,d0⟩:=q9j HG.out j
 have y:(p.s.V n).dead=false:=by
  have:=((z3a _).1 (((z0S p.s).1 HG.out).2.2.2.2.2.1 n j).1).2.2.2.2;cases h:(p.s.V n).dead
  ·rfl
  ·rw[this h]at t;cases t
 have m0:w1.cell? ⟨w.heap.size,94,none⟩=some (.int .i64 p.ml):=o.C.cell 94;have z:w1.cell? ⟨w.heap.size,94+1,none⟩=some (.int .i64 p.mn):=o.C.cell 95;have U:Hid (q4K (p.s.V n)=if (p.s.V n).tok / 100<1 then 1 else (p.s.V n).tok / 100):=rfl;have a:=J6 f;have T:=J6 o;clear f o S;generalize q4K (p.s.V n)=pw at *;have HT:=J6 (fun (wx:World)=>Mt.q1L p.ml p.mn pw wx);generalize hA:(if p.ml<1 then p.ml else wrap64 (p.ml - pw))=ml' at *;generalize hB:(if p.ml<1 then false else true)=may at *;generalize a4:(p.s.V n).tok=tk at *;have hq:IntKind.i64.wrap (tk.tdiv 100)=tk / 100:=by rw[Int.tdiv_eq_ediv_of_nonneg a3];exact z5V (by omega) (by omega)
 have c5:(if 1<tk / 100 then tk / 100 else 1)=pw:=by rw[U.out];split <;> split <;> omega
 have a5:(if tk / 100<1 then 1 else tk / 100)=pw:=U.out.symm;clear a4
 go_upto_region 13 with (go_at_call 99;refine (HT.out _).mono ?_;rintro e G⟨rfl,X⟩;have E:=J6 X;clear X m0 z k1 x3 x0)
 have d:=(T.out.over E.out).over ((Below.refl G.heap.size G).alloc (Nat.le_refl _) (J5 #[.int .i64 ml',.int .i64 p.mn] 44));have M3:=CAt.new 44 G #[.int .i64 ml',.int .i64 p.mn];have d1:w.heap.size+2<G.heap.size:=Nat.lt_of_lt_of_le T.out.R.lt E.out.size;clear T E HT;generalize G.alloc (J5 #[.int .i64 ml',.int .i64 p.mn] 44)=w3 at *;generalize G.heap.size=gm at *
 by_cases g:p.ml<1
 ·rw[if_pos g]at hB;subst hB;have l:=J6 (a.out.trans (if_pos g));have l3:=z0t d.C (z0c _ _);have s3:=z0z d.R z0h (z0c p v) (z2N.one d.U0);have H3:=J6 d;clear d M3 a hA;go_wp2;exact z3o results48 H3.out.R z0h H3.out.B _ _ false _ l.out H3.out.U0 _ rfl _ rfl rfl rfl
 ·rw[if_neg g]at hB hA;subst hB;have l:=J6 (a.out.trans (if_neg g));have m0:w3.cell? ⟨gm,0,none⟩=some (.int .i64 ml'):=M3.cell 0;have z:w3.cell? ⟨gm,0+1,none⟩=some (.int .i64 p.mn):=M3.cell 1;have a6:w3.cell? ⟨w.heap.size,94,none⟩=some (.int .i64 p.ml):=d.C.cell 94;have a7:w3.cell? ⟨w.heap.size,94+1,none⟩=some (.int .i64 p.mn):=d.C.cell 95;have a8:=d.C.free 94;have a9:=d.C.free (94+1);have d2:¬ gm=w.heap.size:=by omega
  have c6:=d.C.lt;have H:=J6 (d.q7E ml');have b4:=J6 hA;clear d M3 a hA g
  go_upto_region 16 with fail
  have M:=H.out;clear H m0 z a6 a7 a8 a9;generalize (w3.setCell ⟨w.heap.size,94,none⟩ (.int .i64 ml')).setCell ⟨w.heap.size,95,none⟩ (.int .i64 p.mn)=w4 at *;have Y:=q8s M.U0.ws n HG.out j t;have Z:=J6 Y;have m4:=z1f M.C;have b5:Hid ((z2V p.s n true false).W=p.s.W):=rfl;have a0:Hid (z2V p.s n true (p.s.V n).dead=z2V p.s n true false):=by rw[Hid,y]
  rw[a0.out]at l;dsimp only at Z m4;generalize z2V p.s n true false=r at *;have H:=J6 M;have c7:=M.R.lt;have b6:=M.C.lt;clear M Y a0;apply z5b (fun u w'=>z8z P w { p with ml:=ml',s:=r } { v with ws:=u } c x (J1 A1 m1 C1) (J1 A2 m2 C2) w')
  ·refine wp_region_noPanic ?_
   go_wp2_with (go_at_call 98;refine Z.out.mono ?_;rintro e w5⟨u,rfl,U5,F⟩;have d3:=z1x (H.out.over F).C (z0c _ _) (z0d r u) (z3h r U5.one');have a1:=J6 (show _/\_ from⟨U5,F⟩);clear U5 F)
   exact NoPanic.normal ⟨u,rfl,rfl,(H.out.over a1.out.2).z0I r u (by rw[b5.out];exact a1.out.1.mono fun b _ h=>.inr (by have:=H.out.R.lt;omega))⟩
  intro u w6 D6;simp only[Exit.then];apply_assumption;exact z6v { p with ml:=ml',s:=r } { v with ws:=u } P w w6 c hc x _ _ n D6 D (by rw[l.out,b4.out]) _ _ _ _ _ _ _ _ _ _ _ _ _ _ _ _ _ _ _ _ _ _ _ _ _ _ _ _ _ _ _ _ _ _ _ _ _ _ _ _ _ _ _ _ _ _ _ _ _ _ _ _ _ _ _ _ _ _ _ _ _ _ _ _ _ _ _ _ _ _ _ _ _ _ _ _ _ _ _ _ _ _ _ _ _ _ _ _ _ _ _ _ _ _ _ _ _ _ _ _ _ _ _ _ _ _ _ _ _ _ _ _ _ _ _ _ _ _ _ _ _ _ _ _ _ _ _ _ _ _ _
theorem q3B(p:Pr)(v:PrV)(P:Nat->Prop)(w:World)(c:Nat)(b:c<2)(x:Pkt)(y1 y2:Value)(d:z2N P w p v)(a:z0j p.s=true)(j:x.k=2∨x.k=3∨x.k=4)(h0:0<=x.v)(l:x.v<6)(e:∃ A m C,y1=J1 A m C)(f:∃ A m C,y2=J1 A m C) :
  Calls prog 48 #[J4 (prC p v),J4 #[J I (c:Int),J I x.k,J I x.i,J I x.v,J I x.n,y1,y2]] w (q8v P w v.q (z0y p c x)):=by
 have g:x.v=(x.v.toNat:Int):=by omega
 rcases j with h | h | h
 ·exact z6Y p v P w c b x y1 y2 d a h x.v.toNat g (by omega) e f
 ·exact q1E p v P w c b x y1 y2 d a h x.v.toNat g (by omega) e f
 ·exact z7K p v P w c b x y1 y2 d a h x.v.toNat g (by omega) e f
end Pv
end Go.Proofs.YtjghbciepinofaaGreat
