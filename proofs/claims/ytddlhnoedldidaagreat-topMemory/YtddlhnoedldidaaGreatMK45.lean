/- Parts of the proof. -/
import Derived.Test.YtddlhnoedldidaaGreatML
import Derived.Test.YtddlhnoedldidaaGreatMK18
set_option maxRecDepth 100000
set_option maxHeartbeats 16000000
namespace Go.Proofs.YtddlhnoedldidaaGreat
open Go.Proofs.Tryz
open Value renaming int->J,slice->J1,pointer->J2,bool->J3,agg->J4
open IntKind renaming i64->I
open Obj renaming cells->J5
namespace Pv
open Go.RowKit
theorem q8w(ao:Option Addr)(n c:Nat)(a:n<=c)(h0:ao=none->n=0)(hc:(n:Int)<4611686018427387904)(w:World):Calls prog 162 #[J1 ao n c] w fun e w'=>e=.returned (J1 ao n n)/\w=w':=by
 have h1:(n:Int)<=(c:Int):=by omega
 have h2:(0:Int)<=(n:Int):=by omega
 go_enter func162,ntmps162
 cases ao
 ·obtain rfl:=h0 rfl;go_wp2;go_ret;exact⟨rfl,rfl⟩
 ·clear h0;go_wp2;go_ret;exact⟨rfl,rfl⟩
theorem j1d{P:Nat->Prop}{ops:Array Oper}{o:Oper}{a:Act}{w:World}{K:Act->World->Prop}{Q:Exit->Act->World->Prop}{E:Prop}(m:o.guard=none)(e:o.type=56)(p q:Operand)
  (f:o.op=Op.call { callee:=Callee.builtin Builtin.append,args:=#[p,q],argTypes:=#[56,56] }) (A:Option Addr) (n y bt:Nat) (cs b:List Value) (r:a.eval p=J1 A n n) (s:a.eval q=J1 (some ⟨y,0,none⟩) 1 1)
  (h:Rep P w (J1 A n n) 7 bt cs) (hb:n * 88<=140737488351232) (t:b.length=7) (x:∀ j v,b[j]?=some v->w.cell? ⟨y,j,none⟩=some v)
  (z:∀ g C w',g=w.heap.size->n+1<=C->(∀ j u,(cs ++ b)[j]?=some u->w'.cell? ⟨g,j,none⟩=some u)->Bl w w'->g<w'.heap.size->K (a.put o.dst (J1 (some ⟨g,0,none⟩) (n+1) C)) w') :
  if Region.wanted o (yielded ops a.tmps)=true then Oper.wp prog o a w K Q else E:=by
 obtain⟨i0,B,i,d,c⟩:=info_parts q7T;have D:Region.wanted o (yielded ops a.tmps)=true:=by simp[Region.wanted,m]
 rw[if_pos D];unfold Oper.wp;obtain⟨C,w',h,F,k,G,l⟩:=apR 56 70 i0 _ underlying56 B i w A n y bt cs b (by rw[d];exact h) (by rw[c];exact hb) (by rw[c];omega) (by rw[c];omega) (by rw[d];exact t) x
 simp[execOp,f,resolve,invoke,builtin,r,s,e,h,Result.andThen]
 exact z _ _ _ rfl F k G l
theorem q1Q.app{P P':Nat->Prop}{w w':World}{q:List (Int×Pkt)}{z:List (Value×Value)}{x:Int×Pkt}{y:Value×Value}(e:z.length=q.length)(n:∀ (i:Nat) (x:Int×Pkt) (y:Value×Value),q[i]?=some x->z[i]?=some y->Rep P w y.1 2 16 (pwC x.2.S)/\Rep P w y.2 1 8 (inC x.2.D))(k:∀ b,b<w.heap.size->P b->P' b)(hb:Bl w w')(o:Rep P' w' y.1 2 16 (pwC x.2.S)/\Rep P' w' y.2 1 8 (inC x.2.D))(l:q.length * 88<=140737488351232){g C:Nat}(p:q.length+1<=C)(r:P' g)(f:g<w'.heap.size)(hc:∀ j u,(quL q z ++ akL x y)[j]?=some u->w'.cell? ⟨g,j,none⟩=some u):q1Q P' w' (J1 (some ⟨g,0,none⟩) (q.length+1) C) (q ++ [x]):=by
 refine⟨z ++ [y],by simp[e],⟨_,q.length+1,C,rfl,?_,by omega,⟨fun h=>(by cases h),p⟩,fun _=>⟨g,0,rfl,r,f,fun j u hu=>?_⟩⟩,fun i a b d c=>?_⟩
 ·rw[z0U _ _ (by simp[e])];simp
 ·rw[q2A q z x y e]at hu;rw[Nat.zero_add];exact hc j u hu
 ·by_cases s:i<q.length
  ·rw[List.getElem?_append_left s]at d;rw[List.getElem?_append_left (by omega)]at c
   have:=n i a b d c;exact⟨(this.1.mono k).over hb,(this.2.mono k).over hb⟩
  ·rw[List.getElem?_append_right (by omega)]at d c
   have t:=(List.getElem?_eq_some_iff.1 d).1;have m:i - q.length=0:=by simpa using t
   rw[m]at d;rw[e,m]at c;cases d;cases c;exact o
theorem j5R(w:World)(x:Int×Pkt)(y:Value×Value)(j:Nat)(v:Value)(a:(akL x y)[j]?=some v):(w.alloc (J5 #[J I x.1,J I x.2.k,J I x.2.i,J I x.2.v,J I x.2.n,y.1,y.2] 70)).drew.cell? ⟨w.heap.size,j,none⟩=some v:=by
 have h:=((CAt.new 70 w #[J I x.1,J I x.2.k,J I x.2.i,J I x.2.v,J I x.2.n,y.1,y.2]).over (Below.refl _ _).drew).cell j;rw[h]
 simpa [akL] using a
attribute [local go_sem ↓] z1B z0H z0w z1w
theorem q8z(p:Pr)(v:PrV)(P:Nat->Prop)(w:World)(c:Int)(s:ByteArray)(hp:PIn P w p v)(hs:s.size<=maxLen)(Y:p.q.length * 88<=140737488351232) :
  Calls prog 126 #[J4 (prC p v),.int .i64 c,.string s] w (j2B P w (z4H p c (Cd.bs s))):=by
 have hD:z4H p c (Cd.bs s)=if z0J p=true then if z9q p c=true then if Cd.z7Q (Cd.bs s)=0 then if (z3w (Cd.bs s)).k=1 then (p,3) else ({ p with q:=p.q ++ [(c,z3w (Cd.bs s))] },0) else (p,Cd.z7Q (Cd.bs s)) else (p,4) else (p,2):=by unfold z4H;rfl
 have a9:z3w (Cd.bs s)=⟨(Cd.z2l (Cd.bs s)).1,(Cd.z2l (Cd.bs s)).2.1,(Cd.z2l (Cd.bs s)).2.2.1,(Cd.z2l (Cd.bs s)).2.2.2.1,(Cd.z2l (Cd.bs s)).2.2.2.2.1,(Cd.z2l (Cd.bs s)).2.2.2.2.2⟩:=by unfold z3w;rfl
 rw[a9]at hD;have a0:=J6 (fun (T:World)=>Cd.z8B s T hs);have K:=J6 Y;clear hs Y;have a1:Hid (Cd.z7Q (Cd.bs s)=0->Cd.z0s (Cd.z2l (Cd.bs s)).1 (Cd.z2l (Cd.bs s)).2.1 (Cd.z2l (Cd.bs s)).2.2.1 (Cd.z2l (Cd.bs s)).2.2.2.1 (Cd.z2l (Cd.bs s)).2.2.2.2.1 (Cd.z2l (Cd.bs s)).2.2.2.2.2=0):=fun h=>(Cd.q1q (Cd.z9P s) h).1;clear a9;generalize z4H p c (Cd.bs s)=D at *;generalize Cd.z7Q (Cd.bs s)=E at *;generalize Cd.z2l (Cd.bs s)=R at *;obtain⟨k,i,A,F,S,Dn⟩:=R;dsimp only at hD a0 a1;have HD:=J6 hD;clear hD;have d:=z0Y hp;have a2:=J6 (fun (T:World) (hb:Bl w T)=>z3a p v P T (hp.over hb));have HN:=J6 (fun (T:World) (hb:Bl w T)=>hp.z2y hb 2);have HP:=J6 hp;clear hp;generalize z0J p=G at *
 go_enter func126,ntmps126
 go_upto_region 1 with fail
 change Code.wp prog _ _ _ ((w.alloc (J5 (prC p v) 58)).alloc (J5 zeroCells58 58));have C0:CAt 58 ((w.alloc (J5 (prC p v) 58)).alloc (J5 zeroCells58 58)) w.heap.size (prC p v):=(CAt.new _ w _).alloc _;have R0:CAt 58 ((w.alloc (J5 (prC p v) 58)).alloc (J5 zeroCells58 58)) (w.heap.size+1) zeroCells58:=CAt.new2 _ w _ _;have B0:Bl w ((w.alloc (J5 (prC p v) 58)).alloc (J5 zeroCells58 58)):=(znw w _).alloc (by simp) _
 generalize (w.alloc (J5 (prC p v) 58)).alloc (J5 zeroCells58 58)=w0 at *;have l0:=z0j C0 (z0b _ _);have W:=J6 (show _/\_/\_ from⟨C0,R0,B0⟩);clear C0 R0 B0;have HV:Hid (∀ er,D=(p,er)->∀ (f:Func) (act:Act) (wq:World),CAt 58 wq (w.heap.size+1) zeroCells58->Bl w wq->f.results=#[.cell 6 58,.tmp 7]->act.tmps.getD 6 undef=J2 (some ⟨w.heap.size+1,0,none⟩)->act.tmps.getD 7 undef=.int .i64 er->act.defers=[]->bodyPost prog f (j2B P w D) Exit.ret act (wq.setCells (w.heap.size+1) 0 (prC p v).toList)):=fun er he f act wq R B h1 h2 h3 h4=>z0K h1 R z0d B p v er D he (HN.out _ B) act h2 h3 h4;cases G
 ·have m:=J6 (HD.out.trans (if_neg (by simp)))
  clear HD
  go_upto_region 2 with (go_at_call 67;refine (a2.out _ W.out.2.2).mono ?_;rintro e w1⟨rfl,l⟩;clear l0)
  have R1:=W.out.2.1.over l;have l1:=z0j (W.out.1.over l) (z0b _ _);have s1:=z0k R1 z0d (z0b p v) d;have B1:=zbt W.out.2.2 l;have H:=J6 (show _/\_ from⟨R1,B1⟩);clear R1 B1 l d;go_wp2;exact HV.out 2 m.out _ _ _ H.out.1 H.out.2 results126 rfl rfl rfl
 ·have m:=J6 (HD.out.trans (if_pos rfl));clear HD
  go_upto_region 3 with (go_at_call 67;refine (a2.out _ W.out.2.2).mono ?_;rintro e w1⟨rfl,l⟩;clear l0)
  have C1:=W.out.1.over l;have R1:=W.out.2.1.over l;have B1:=zbt W.out.2.2 l;have l1:=z0j C1 (z0b _ _);have s1:=z0k R1 z0d (z0b p v) d;have a3:=J6 (z5s w.heap.size p v c w1 C1);have H1:=J6 (show _/\_/\_ from⟨C1,R1,B1⟩);clear C1 R1 B1 l W a2;generalize z9q p c=io at *;cases io
  ·replace m:=J6 (m.out.trans (if_neg (by simp)))
   go_wp2_with (go_at_call 97;refine a3.out.mono ?_;rintro e w'⟨rfl,rfl⟩)
   exact HV.out 4 m.out _ _ _ H1.out.2.1 H1.out.2.2 results126 rfl rfl rfl
  ·replace m:=J6 (m.out.trans (if_pos rfl))
   go_upto_region 6 with (first
    | (go_at_call 97;refine a3.out.mono ?_;rintro e w'⟨rfl,rfl⟩)
    | (go_at_call 16;refine (a0.out _).mono ?_;rintro e U⟨sa,da,cs,cd,sb,so,db,dO,rfl,hL,b4,t⟩))
   have Z:=(H1.out.1.over t).alloc (J5 #[.int .i64 k,.int .i64 i,.int .i64 A,.int .i64 F,J1 sa S.length cs,J1 da Dn.length cd] 68);have R3:=(H1.out.2.1.over t).alloc (J5 #[.int .i64 k,.int .i64 i,.int .i64 A,.int .i64 F,J1 sa S.length cs,J1 da Dn.length cd] 68);have B3:=(zbt H1.out.2.2 t).alloc (Nat.le_trans H1.out.2.2.size t.size) (J5 #[.int .i64 k,.int .i64 i,.int .i64 A,.int .i64 F,J1 sa S.length cs,J1 da Dn.length cd] 68);have V:=CAt.new 68 U #[.int .i64 k,.int .i64 i,.int .i64 A,.int .i64 F,J1 sa S.length cs,J1 da Dn.length cd];have d2:w.heap.size+1<U.heap.size:=(H1.out.2.1.over t).lt;clear l1 s1 t hL a3 a0;generalize U.alloc (J5 #[.int .i64 k,.int .i64 i,.int .i64 A,.int .i64 F,J1 sa S.length cs,J1 da Dn.length cd] 68)=w3 at *;have d3:U.heap.size<w3.heap.size:=V.lt
   by_cases hE:E=0
   ·subst hE;have b5:=j1m (a1.out rfl);replace m:=J6 (m.out.trans (if_pos rfl));have k0:w3.cell? ⟨U.heap.size,0,none⟩=some (.int .i64 k):=V.cell 0
    by_cases hk:k=1
    ·subst hk;replace m:=J6 (m.out.trans (if_pos rfl));have l3:=z0j Z (z0b _ _);have s3:=z0k R3 z0d (z0b p v) d;have H:=J6 (show _/\_ from⟨R3,B3⟩);clear Z R3 B3 V d;go_wp2;exact HV.out 3 m.out _ _ _ H.out.1 H.out.2 results126 rfl rfl rfl
    ·obtain⟨eS,eD⟩:=b5.2.2.2 hk;subst eS eD;replace m:=J6 (m.out.trans (if_neg hk));have d4:(k == 1)=false:=by simpa using hk
     obtain⟨z,a4,L,b6⟩:=HP.out.q;obtain⟨Aq,Cq,eq,-,b7,-,-⟩:=L.open (z0U _ _ a4) (by decide)
     have a5:=(L.room eq).1
     have b8:Hid (∀ T,Bl w T->Rep P T (J1 Aq p.q.length p.q.length) 7 80 (quL p.q z)):=fun T hb=>by
      rw[eq]at L;exact (L.over hb).clip
     have a6:=J6 (show _/\_ from⟨a4,b6⟩);have b9:Aq=none->p.q.length=0:=fun h=>(b7 h).1;have c4:(p.q.length:Int)<4611686018427387904:=by have:=K.out;omega
     have d5:w3.cell? ⟨w.heap.size,96,none⟩=some (J1 Aq p.q.length Cq):=by rw[<- eq];exact Z.cell 96
     have k1:w3.cell? ⟨U.heap.size,1,none⟩=some (.int .i64 i):=V.cell 1;have k2:w3.cell? ⟨U.heap.size,2,none⟩=some (.int .i64 A):=V.cell 2;have k3:w3.cell? ⟨U.heap.size,3,none⟩=some (.int .i64 F):=V.cell 3;have k4:w3.cell? ⟨U.heap.size,4,none⟩=some (J1 sa 0 cs):=V.cell 4;have k5:w3.cell? ⟨U.heap.size,5,none⟩=some (J1 da 0 cd):=V.cell 5;have H3:=J6 (show _/\_/\_ from⟨Z,R3,B3⟩);have d6:w.heap.size<w3.heap.size:=Z.lt;have c5:=J6 b4;clear a4 L b6 b7 Z R3 B3 V b4 b5 a1 HV d
     go_upto_region 10 with fail
     go_region_law (first
      | (refine z0B rfl ?_;go_simp;go_at_call 162;refine (q8w Aq p.q.length Cq a5 b9 c4 _).mono ?_;rintro e we⟨rfl,rfl⟩)
      | (refine j1d rfl rfl _ _ rfl Aq p.q.length _ 80 (quL p.q z) (akL (c,⟨k,i,A,F,[],[]⟩) (J1 sa 0 cs,J1 da 0 cd)) rfl rfl (b8.out _ (by exact (H3.out.2.2.alloc H3.out.2.2.size _).drew)) K.out rfl (fun j v hj=>j5R w3 (c,⟨k,i,A,F,[],[]⟩) (J1 sa 0 cs,J1 da 0 cd) j v hj) ?_;intro g C w9 M N n x r;have C9:=((H3.out.1.alloc (J5 #[.int .i64 c,.int .i64 k,.int .i64 i,.int .i64 A,.int .i64 F,J1 sa 0 cs,J1 da 0 cd] 70)).over (Below.refl _ _).drew).over x;have c8:w9.cell? ⟨w.heap.size,96,none⟩=some v.q:=C9.cell 96;have c9:=C9.free 96;have d0:=C9.lt;have HX:=J6 (show _/\_/\_/\_/\_ from⟨M,N,n,x,r⟩);have c6:=J6 C9;clear C9 M N n x r))
     all_goals
      obtain⟨M,N,n,x,r⟩:=HX.out;have d1:g=w3.heap.size+1:=by rw[M];show (w3.alloc _).heap.size=_;simp
      have bX:Bl w3 (w3.alloc (J5 #[.int .i64 c,.int .i64 k,.int .i64 i,.int .i64 A,.int .i64 F,J1 sa 0 cs,J1 da 0 cd] 70)).drew:=(znw w3 _).drew;have bY:=zbt bX x;have c7:=c6.out.set 96 (J1 (some ⟨g,0,none⟩) (p.q.length+1) C);have a7:=(H3.out.2.1.over bY).other (c:=w.heap.size) (o:=96) (by omega) (J1 (some ⟨g,0,none⟩) (p.q.length+1) C)
      have B9:=zbt H3.out.2.2 bY;have X:=B9.setCell (p:=⟨w.heap.size,96,none⟩) (Nat.le_refl _) (J1 (some ⟨g,0,none⟩) (p.q.length+1) C)
      have a8:PIn (New P w 2) (w9.setCell ⟨w.heap.size,96,none⟩ (J1 (some ⟨g,0,none⟩) (p.q.length+1) C)) { p with q:=p.q ++ [(c,⟨k,i,A,F,[],[]⟩)] } { v with q:=J1 (some ⟨g,0,none⟩) (p.q.length+1) C }:=by
       have n9:=HN.out _ X;refine⟨n9.ws,n9.set,n9.lk,q1Q.app (P:=P) (w:=w) (y:=(J1 sa 0 cs,J1 da 0 cd)) a6.out.1 a6.out.2 (fun b hb hp=>.inl ⟨hp,hb⟩) X ⟨q0n c5.out.1.1,q0n c5.out.2.1⟩ K.out N (.inr (by omega)) (by simpa [World.setCell] using r) (fun j u hu=>?_)⟩
       rw[World.cell?_of_block (w:=w9) (a:=⟨g,j,none⟩) (Below.heap_setCell w9 ⟨w.heap.size,96,none⟩ _ g (by show g≠w.heap.size;omega))]
       exact n j u hu
      have Q:=z0Y a8;change (prC p { v with q:=J1 (some ⟨g,0,none⟩) (p.q.length+1) C }).all _=true at Q
      have l10:=z0j c7 (by simp[z0b])
      rw[j8l]at l10;have d7:=z0k a7 z0d (z0b p { v with q:=J1 (some ⟨g,0,none⟩) (p.q.length+1) C }) Q
      have H:=J6 (show _/\_/\_ from⟨a7,X,a8⟩);clear c7 a7 X B9 a8 bX bY n x r N d1 M HX c6 H3 b8 a6 c8 c9 d0;generalize w9.setCell ⟨w.heap.size,96,none⟩ (J1 (some ⟨g,0,none⟩) (p.q.length+1) C)=w10 at *;simp only[Exit.then];apply_assumption;go_wp2;exact z0K results126 H.out.1 z0d H.out.2.1 { p with q:=p.q ++ [(c,⟨k,i,A,F,[],[]⟩)] } _ 0 D m.out H.out.2.2 _ rfl rfl rfl
   ·replace m:=J6 (m.out.trans (if_neg hE));have l3:=z0j Z (z0b _ _);have s3:=z0k R3 z0d (z0b p v) d;have d8:(E != 0)=true:=by simpa using hE
    have H:=J6 (show _/\_ from⟨R3,B3⟩);clear Z R3 B3 V d;go_wp2;exact HV.out E m.out _ _ _ H.out.1 H.out.2 results126 rfl rfl rfl
end Pv
namespace Pv
open Go.RowKit
def j8f(P:Nat->Prop)(w:World)(r:Pr×List Int×Int)(e:Ending)(w':World):Prop:=∃ v' u,e=.returned (.tuple #[J4 (prC r.1 v'),u,J I r.2.2])/\PIn (New P w 2) w' r.1 v'/\Rep (New P w 2) w' u 1 8 (inC r.2.1)/\Bl w w'
theorem z9t{e:Func}{p q u:Tmp}(h:e.results=#[.cell p 58,.tmp q,.tmp u])(a:Array Value)(w:World)(g:Nat)(cs:Array Value)(v v2:Value)
  (hp:a.getD p undef=J2 (some ⟨g,0,none⟩)) (f:a.getD q undef=v) (hu:a.getD u undef=v2) (i:CAt 58 w g cs) (b:cs.size=97) :
  (results e a).run prog w=.ok (.tuple #[J4 cs,v,v2]) w:=by
 have hp':a[p]?.getD undef=J2 (some ⟨g,0,none⟩):=by simpa using hp
 have c:a[q]?.getD undef=v:=by simpa using f
 have d:a[u]?.getD undef=v2:=by simpa using hu
 simp[results,h,hp',c,d,asAddr,run_loadVar_row w g 58 58 cs (0,0) _ i underlying58 rfl (by rw[z2E,b])]
theorem q0h{f:Func}{t q y:Tmp}(a:f.results=#[.cell t 58,.tmp q,.tmp y]){P:Nat->Prop}{w wq:World}{e:Array Value}(R:CAt 58 wq (w.heap.size+1) e)(g:e.size=97)(H:Bl w wq)(b:Pr)(v':PrV)(u:Value)(l:List Int)(c:Int)(r:Pr×List Int×Int)(h:r=(b,l,c))(hp:PIn (New P w 2) wq b v')(hu:Rep (New P w 2) wq u 1 8 (inC l))(act:Act)
  (i:act.tmps.getD t undef=J2 (some ⟨w.heap.size+1,0,none⟩)) (j:act.tmps.getD q undef=u) (d:act.tmps.getD y undef=J I c) (hd:act.defers=[]) :
  bodyPost prog f (j8f P w r) Exit.ret act (wq.setCells (w.heap.size+1) 0 (prC b v').toList):=by
 subst h;have k:=R.z0t (ds:=prC b v') (by rw[g];rfl)
 exact bodyPost_ret (v:=.tuple #[J4 (prC b v'),u,J I c]) (z9t a _ _ _ _ _ _ i j d k rfl) hd ⟨v',u,rfl,hp.sets (z3F (by omega)) _ _,hu.sets (z3F (by omega)) _ _,z0a (Nat.le_succ _) _ _ _ H⟩
def Turns(w:World)(g:Nat)(P:Nat->Prop)(a:Pr)(e:Ending)(w':World):Prop:=∃ v',e=.returned (.tuple #[])/\CAt 58 w' g (prC a v')/\PIn (New P w 0) w' a v'/\Alt g w w'
theorem z0I{P:Nat->Prop}{w:World}{g:Nat}(a:¬ P g)(b:g<w.heap.size):¬ New P w 0 g:=fun h=>by
 rcases h with⟨h,_⟩ | h
 ·exact a h
 ·omega
theorem j3K(p:Pr)(v:PrV)(x:Int):(prC p v).setIfInBounds 0 (J I x)=prC { p with h:=x } v:=rfl
theorem j3M(p:Pr)(v:PrV)(x:Int):(prC p v).setIfInBounds 1 (J I x)=prC { p with t:=x } v:=rfl
theorem j5E(p:Pr)(v:PrV)(x:Int):(prC p v).setIfInBounds 94 (J I x)=prC { p with ml:=x } v:=rfl
theorem j6o(p:Pr)(v:PrV)(x:Int):(prC p v).setIfInBounds 95 (J I x)=prC { p with mn:=x } v:=rfl
def Nx(P:Nat->Prop)(w:World)(g b:Nat):Prop:=(P b/\b<w.heap.size)∨(w.heap.size+2<=b/\b≠g)
theorem q8B{P:Nat->Prop}{w:World}{g:Nat}(a:w.heap.size<=g):¬ Nx P w g g:=fun h=>by
 rcases h with⟨_,h⟩ | ⟨_,h⟩
 ·omega
 ·exact h rfl
theorem j5V{P:Nat->Prop}{w wl:World}{g b:Nat}(a:w.heap.size+2<=wl.heap.size)(c:g<wl.heap.size)(h:New (Nx P w g) wl 0 b):Nx P w g b:=by
 rcases h with⟨h,_⟩ | h
 ·exact h
 ·exact .inr ⟨by omega,by omega⟩
theorem j2l{P:Nat->Prop}{w:World}{g b:Nat}(h:Nx P w g b):New P w 2 b:=by
 rcases h with h | h
 ·exact .inl h
 ·exact .inr h.1
theorem PIn.nx{P:Nat->Prop}{w w':World}{p:Pr}{v:PrV}(h:PIn P w p v)(hb:Bl w w')(g:Nat):PIn (Nx P w g) w' p v:=(h.mono (P':=fun b=>Nx P w g b/\b<w.heap.size) fun _ a hp=>⟨.inl ⟨hp,a⟩,a⟩).over hb |>.mono fun _ _ h=>h.1
theorem q9T(l:List (Int×Int)):Mt.I64 (Df.q4m l):=by
 have key:∀ (l:List (Int×Int)) (a:Int),Mt.I64 a->Mt.I64 (l.foldl (fun s x=>(s+x.2+9223372036854775808) % 18446744073709551616 - 9223372036854775808) a):=by
  intro l
  induction l with
  | nil=>exact fun a h=>h
  | cons x l ih=>exact fun a _=>ih _ (by show Mt.I64 ((a+x.2+9223372036854775808) % 18446744073709551616 - 9223372036854775808);unfold Mt.I64;omega)
 exact key l 0 (by unfold Mt.I64;omega)
def j2t(a v:Value):Sem Unit:=Instr.storeAt 44 a v
theorem q7K(a v:Value):Instr.storeAt 44 a v=j2t a v:=rfl
theorem q8l{w:World}{b o:Nat}{u v:Value}(a:∃ A n C,v=J1 A n C)(hc:w.cell? ⟨b,o,none⟩=some u)(c:w.frozen? ⟨b,o,none⟩=false):(j2t (J2 (some ⟨b,o,none⟩)) v).run prog w=.ok () (w.setCell ⟨b,o,none⟩ v):=by
 obtain⟨A,n,C,rfl⟩:=a;change (Instr.storeAt 44 _ _).run prog w=_;go_simp
attribute [local go_sem ↓] q7K
attribute [local go_sem ↓] z1B z0H z0w z1w
theorem j3v(p:Pr)(v:PrV)(P:Nat->Prop)(w:World)(now:Int)(hp:PIn P w p v)(q0 q1 q2:Pr)
  (HQ:z0J p=true->isT now=true->p.t<=now->∀ (g:Nat) (v:PrV) (m:World) (P':Nat->Prop),CAt 58 m g (prC (z1k p now) v)->PIn P' m (z1k p now) v->¬ P' g->Calls prog 77 #[J2 (some ⟨g,0,none⟩)] m (Turns m g P' (z0L (z1k p now))))
  (c7:z0J p=true->z0m (z0L (z1k p now)).s=true)
  (HT:z0J p=true->isT now=true->p.t<=now->∀ (c:Nat),c<2->∀ (g:Nat) (v:PrV) (m:World) (P':Nat->Prop),CAt 58 m g (prC (if c=0 then q0 else q1) v)->PIn P' m (if c=0 then q0 else q1) v->¬ P' g->Calls prog 80 #[J2 (some ⟨g,0,none⟩),J2 (some ⟨g,66+c * 14,none⟩)] m (Turns m g P' (if c=0 then q1 else q2)))
  (a4:q0=z4n (z0L (z1k p now)) now) (c8:q1=z1H q0 0) (c9:q2=z1H q1 1) :
  Calls prog 58 #[J4 (prC p v),.int .i64 now] w (j8f P w (endP p now)):=by
 have hD:endP p now=if z0J p=true/\isT now=true/\p.t<=now then (q2,z1W now (z0L (z1k p now)).s.W,0) else (p,[],2):=by unfold endP;rw[c9,c8,a4]
 generalize endP p now=D at *;have HD:=J6 hD;clear hD c8 c9;have E:=z0Y hp;have T:=J6 (fun (m:World) (hb:Bl w m)=>z3a p v P m (hp.over hb));have HN:=J6 (fun (m:World) (hb:Bl w m)=>hp.z2y hb 2);have HP:=J6 hp;have F:=J6 HQ;have H:=J6 HT;have K:=J6 c7;have a5:=J6 a4
 have a6:Hid (z0J p=true->0<=p.h/\p.h<=1099511627775):=fun h=>by
  unfold z0J at h;simp only[Bool.and_eq_true,decide_eq_true_eq]at h;exact⟨h.1.1.1.1.1.1.2,h.1.1.1.1.1.2⟩
 clear hp HQ HT c7 a4;generalize z0J p=G at *
 go_enter func58,ntmps58
 go_upto_region 1 with fail
 change Code.wp prog _ _ _ ((w.alloc (J5 (prC p v) 58)).alloc (J5 zeroCells58 58));have C0:CAt 58 ((w.alloc (J5 (prC p v) 58)).alloc (J5 zeroCells58 58)) w.heap.size (prC p v):=(CAt.new _ w _).alloc _;have R0:CAt 58 ((w.alloc (J5 (prC p v) 58)).alloc (J5 zeroCells58 58)) (w.heap.size+1) zeroCells58:=CAt.new2 _ w _ _;have B0:Bl w ((w.alloc (J5 (prC p v) 58)).alloc (J5 zeroCells58 58)):=(znw w _).alloc (by simp) _
 generalize (w.alloc (J5 (prC p v) 58)).alloc (J5 zeroCells58 58)=w0 at *;have l0:=z0j C0 (z0b _ _);have C:=J6 (show _/\_/\_ from⟨C0,R0,B0⟩);clear C0 R0 B0
 by_cases U:G=true/\isT now=true/\p.t<=now
 ·obtain⟨rfl,a7,a8⟩:=U;replace HD:=J6 (HD.out.trans (if_pos ⟨rfl,a7,a8⟩));obtain⟨l2,l3⟩:=a6.out rfl;replace F:=J6 (F.out rfl a7 a8);replace H:=J6 (H.out rfl a7 a8);replace K:=J6 (K.out rfl);clear a6
  go_upto_region 3 with (first
   | (go_at_call 67;refine (T.out _ C.out.2.2).mono ?_;rintro e w1⟨rfl,j⟩;clear l0;have a1:w1.cell? ⟨w.heap.size,1,none⟩=some (.int .i64 p.t):=(C.out.1.over j).cell 1)
   | (go_at_call 69;refine (z3E _ _).mono ?_;rintro e w'⟨rfl,rfl⟩))
  have C1:=C.out.1.over j;have R1:=C.out.2.1.over j;have B1:=zbt C.out.2.2 j;have l1:=z0j C1 (z0b _ _);have s1:=z0k (CAt.new 58 w1 zeroCells58) z0d (z0b p v) E;have H1:=J6 (show _/\_/\_ from⟨C1,R1,B1⟩);have j8:=R1.lt;clear C1 R1 B1 j C T a1
  go_upto_region 4 with fail
  have X:Bl w1 ((w1.alloc (J5 zeroCells58 58)).setCells w1.heap.size 0 (prC p v).toList):=z0a (Nat.le_refl _) _ _ _ (znw w1 _);have N2:CAt 58 ((w1.alloc (J5 zeroCells58 58)).setCells w1.heap.size 0 (prC p v).toList) w1.heap.size (prC p v):=(CAt.new 58 w1 zeroCells58).z0t (by rw[z0d];rfl)
  have C2:=H1.out.1.over X;have R2:=H1.out.2.1.over X;have B2:=zbt H1.out.2.2 X;clear X l1 s1;generalize (w1.alloc (J5 zeroCells58 58)).setCells w1.heap.size 0 (prC p v).toList=w2 at *;generalize w1.heap.size=gn at *;have n0:w2.cell? ⟨gn,0,none⟩=some (.int .i64 p.h):=N2.cell 0;have n1:w2.cell? ⟨gn,1,none⟩=some (.int .i64 p.t):=N2.cell 1;have h7:=N2.free 0;have h8:=N2.free 1;have N4:=(N2.set 0 (.int .i64 (p.h+1))).set 1 (.int .i64 now);rw[j3K,j3M]at N4;have C4:=(C2.other (c:=gn) (o:=0) (by omega) (.int .i64 (p.h+1))).other (c:=gn) (o:=1) (by omega) (.int .i64 now)
  have R4:=(R2.other (c:=gn) (o:=0) (by omega) (.int .i64 (p.h+1))).other (c:=gn) (o:=1) (by omega) (.int .i64 now)
  have B4:=(B2.setCell (p:=⟨gn,0,none⟩) (by show _<=gn;omega) (.int .i64 (p.h+1))).setCell (p:=⟨gn,1,none⟩) (by show _<=gn;omega) (.int .i64 now)
  have j9:=N2.lt;clear C2 R2 B2 N2
  go_upto_region 6 with fail
  clear n0 n1 h7 h8;generalize (w2.setCell ⟨gn,0,none⟩ (.int .i64 (p.h+1))).setCell ⟨gn,1,none⟩ (.int .i64 now)=w4 at *;obtain⟨⟨-,-,h9,i2,i3,-⟩,-⟩:=z3p C4;have i4:w4.cell? ⟨gn,94,none⟩=some (.int .i64 p.ml):=N4.cell 94;have i5:w4.cell? ⟨gn,95,none⟩=some (.int .i64 p.mn):=N4.cell 95;have i6:=N4.free 94;have i7:=N4.free 95;have i8:=C4.lt;have i9:=N4.lt;have d0:=J6 (fun (m:World) (hb:Bl w m)=>j5Z (HP.out.set.over hb));have H4:=J6 (show _/\_/\_/\_ from⟨N4,C4,R4,B4⟩);clear N4 C4 R4 B4 H1;have d1:=J6 (q9T p.set);have d2:Hid (z1k p now={ p with h:=p.h+1,t:=now,ml:=if now<p.mn then p.ml else Mt.alw (Df.q4m p.set),mn:=if now<p.mn then p.mn else wrap64 (now+10) }):=rfl
  have d3:=J6 (fun (m:World)=>Mt.q7H p.ml p.mn (Df.q4m p.set) now d1.out m);generalize Df.q4m p.set=al at *;generalize (if now<p.mn then p.ml else Mt.alw al)=ml' at *;generalize (if now<p.mn then p.mn else wrap64 (now+10))=mn' at *;apply z3M (fun w'=>∃ w6,w'=(w6.setCell ⟨gn,94,none⟩ (.int .i64 ml')).setCell ⟨gn,95,none⟩ (.int .i64 mn')/\Bl w4 w6)
  ·refine wp_region_noPanic ?_
   go_region_with (first
    | (go_at_call 76;refine (d0.out _ (by exact H4.out.2.2.2.drew)).mono ?_;rintro e w5⟨rfl,a9⟩;obtain⟨⟨-,-,l4,l5,l6,-⟩,-⟩:=z3p (H4.out.2.1.over ((Below.refl _ _).drew.trans a9)))
    | (go_at_call 75;refine (d3.out _).mono ?_;rintro e w6⟨rfl,d4⟩;have N6:=(H4.out.1.over ((Below.refl _ _).drew.trans a9)).over d4;have l7:w6.cell? ⟨gn,94,none⟩=some (.int .i64 p.ml):=N6.cell 94;have l8:w6.cell? ⟨gn,95,none⟩=some (.int .i64 p.mn):=N6.cell 95;have k2:=N6.free 94;have k3:=N6.free 95;have l9:=N6.lt;clear N6))
   all_goals
    have j0:=(Below.refl w4.heap.size w4).drew.trans a9;exact NoPanic.normal ⟨rfl,rfl,_,rfl,zbt j0 d4⟩
  rintro w'⟨w6,rfl,b6⟩;have N7:=((H4.out.1.over b6).set 94 (.int .i64 ml')).set 95 (.int .i64 mn');rw[j5E,j6o]at N7;have R7:=((H4.out.2.2.1.over b6).other (c:=gn) (o:=94) (by omega) (.int .i64 ml')).other (c:=gn) (o:=95) (by omega) (.int .i64 mn')
  have C7:=((H4.out.2.1.over b6).other (c:=gn) (o:=94) (by omega) (.int .i64 ml')).other (c:=gn) (o:=95) (by omega) (.int .i64 mn')
  have B7:=((zbt H4.out.2.2.2 b6).setCell (p:=⟨gn,94,none⟩) (by show _<=gn;omega) (.int .i64 ml')).setCell (p:=⟨gn,95,none⟩) (by show _<=gn;omega) (.int .i64 mn')
  have L:=HP.out.nx B7 gn;have d5:PIn (Nx P w gn) _ (z1k p now) v:=⟨L.ws,L.set,L.lk,L.q⟩;clear L;rw[<- d2.out]at N7;clear b6 H4 h9 i2 i3 i4 i5 i6 i7 i8 i9 d0 d1 d3 d2;generalize (w6.setCell ⟨gn,94,none⟩ (.int .i64 ml')).setCell ⟨gn,95,none⟩ (.int .i64 mn')=w7 at *;have d6:=J6 (F.out gn v w7 (Nx P w gn) N7 d5 (q8B (by omega)))
  have H7:=J6 (show _/\_/\_ from⟨C7,R7,B7⟩);have j1:=N7.lt;have m0:=R7.lt;have d7:=K.out;clear N7 R7 B7 C7 d5 F K;generalize z0L (z1k p now)=p2 at *;simp only[Exit.then];apply_assumption
  go_upto_region 8 with (go_at_call 77;refine d6.out.mono ?_;rintro e w8⟨v8,rfl,C8,P8,A8⟩)
  have R8:=A8.cat (b:=w.heap.size+1) (by omega) H7.out.2.1
  have B8:=H7.out.2.2.trans (A8.below (by omega) H7.out.2.2.size)
  have m1:=A8.size;have b4:PIn (Nx P w gn) w8 p2 v8:=P8.mono fun b _ hb=>j5V (by omega) j1 hb
  have m8:=z2a C8;have d8:=J6 (j6i b4.ws now d7);have H8:=J6 (show _/\_/\_/\_ from⟨C8,R8,B8,b4⟩);have m2:=C8.lt;clear P8 b4 A8 C8 R8 B8 d6 H7;have j2:=(j2c d7 now).good;have d9:=J6 (fun (u:Value) (m:World)=>j6J (z5J p2.s now) u m j2);have j3:=J6 (q3w (z5J p2.s now).V);have M:Hid (q0={ p2 with s:=z5J p2.s now,set:=z7M (z5J p2.s now).V }):=a5.out
  clear a5;generalize z5J p2.s now=s3 at *;generalize z7M s3.V=st3 at *
  go_upto_region 9 with (go_at_call 78;refine d8.out.mono ?_;rintro e z⟨n,x9,rfl,U9,X9,b5⟩;clear m8;have a2:=z6r s3 U9.one';have e0:=z7A (CAt.new 43 z Z63) rfl (z0f s3 n) a2;unfold Z63 at e0)
  change Code.wp prog _ _ _ ((z.alloc (J5 Z63 43)).setCells z.heap.size 0 (stC s3 n).toList);have X:Bl z ((z.alloc (J5 Z63 43)).setCells z.heap.size 0 (stC s3 n).toList):=z0a (Nat.le_refl _) _ _ _ (znw z _);have Y:CAt 43 ((z.alloc (J5 Z63 43)).setCells z.heap.size 0 (stC s3 n).toList) z.heap.size (stC s3 n):=(CAt.new 43 z Z63).z0t rfl;have N:=zbt b5 X;have e3:=H8.out.1.over N;have e4:=H8.out.2.1.over N;have e5:=zbt H8.out.2.2.1 N;have e6:=H8.out.2.2.2.over N;have e7:=U9.over X;have e8:=X9.over X;have m3:=b5.size;clear X N e0 b5 U9 X9 H8 d8;generalize (z.alloc (J5 Z63 43)).setCells z.heap.size 0 (stC s3 n).toList=w10 at *;have k4:=Y.lt;generalize z.heap.size=tb at *;have l:=J6 (show _/\_/\_/\_/\_/\_/\_ from⟨Y,e3,e4,e5,e6,e7,e8⟩);have j4:=z6J (Y.over (Below.refl _ _).drew) (z0f _ _);clear Y e3 e4 e5 e6 e7 e8
  go_upto_region 11 with fail
  apply q3v (fun a w'=>∃ d r,w'=r.setCell ⟨gn,65,none⟩ a/\r=d.setCells gn 2 (stC s3 n).toList/\Bl w10 d/\Rep (fun b=>w10.heap.size<=b) d a 2 16 (pwC st3))
  ·refine wp_region_noPanic ?_
   have e9:Hid (∀ d,Bl w10 d->∃ r,r=d.setCells gn 2 (stC s3 n).toList/\(q1l (J2 (some ⟨gn,2,none⟩)) (J4 (stC s3 n))).run prog d=.ok () r/\r.cell? ⟨gn,65,none⟩=some v8.set/\r.frozen? ⟨gn,65,none⟩=false/\gn<r.heap.size):=fun d f=>by
    have f4:=l.out.2.1.over f;have x:=f4.z1g s3 n;exact⟨_,rfl,z2D f4 (z0b _ _) (z0f s3 n) a2,x.cell 65,x.free 65,x.lt⟩
   go_region_with (go_at_call 79;refine (d9.out _ _).mono ?_;rintro e d⟨a,rfl,Q,f5⟩;have f:=(Below.refl w10.heap.size w10).drew.trans f5;have m4:=z6J (l.out.1.over f) (z0f _ _);obtain⟨r,A,k5,f6,a3,yz⟩:=e9.out d f;have k6:=q8l Q.one' f6 a3;clear f6 a3;have j5:=J6 A;clear A)
   all_goals exact NoPanic.normal ⟨a,rfl,rfl,d,r,rfl,j5.out,f,Q⟩
  rintro a w'⟨d,r,rfl,A,f,Q⟩;have x:=(l.out.2.1.over f).z1g s3 n;have b7:=(l.out.2.2.1.over f).others (c:=gn) (o:=2) (by omega) (stC s3 n).toList
  have f7:=zbt l.out.2.2.2.1 f;have b8:=z0a (b:=gn) (B:=w.heap.size) (by omega) (stC s3 n).toList 2 _ f7
  rw[<- A]at x b7 b8;have b9:=x.set 65 a;rw[j6c]at b9;have c4:=b7.other (c:=gn) (o:=65) (by omega) a
  have f8:=b8.setCell (p:=⟨gn,65,none⟩) (by show _<=gn;omega) a
  have R:Alt gn d (r.setCell ⟨gn,65,none⟩ a):=by rw[A];exact (Alt.sets (stC s3 n).toList (Alt.refl gn d) 2).set 65 a
  have k7:=l.out.1.lt
  have f9:PIn (Nx P w gn) (r.setCell ⟨gn,65,none⟩ a) q0 { v8 with ws:=n,set:=a }:=by
   have no:=q8B (P:=P) (w:=w) (g:=gn) (by omega)
   have p1:=R.pin no (l.out.2.2.2.2.1.over f);have hU:Rep (Nx P w gn) d n 8 64 (wsL s3.W):=(l.out.2.2.2.2.2.1.over f).mono fun b _ hb=>.inr (by have g0:w8.heap.size<=b:=hb;omega)
   have hS:Rep (Nx P w gn) d a 2 16 (pwC st3):=Q.mono fun b _ hb=>.inr (by have g0:w10.heap.size<=b:=hb;omega)
   rw[M.out];exact⟨R.rep no hU,R.rep no hS,p1.lk,p1.q⟩
  have g1:Rep (Nx P w gn) (r.setCell ⟨gn,65,none⟩ a) x9 1 8 (inC (z1W now p2.s.W)):=R.rep (q8B (by omega)) ((l.out.2.2.2.2.2.2.over f).mono fun b _ hb=>.inr (by have g0:w8.heap.size<=b:=hb;omega))
  have S:CAt 58 (r.setCell ⟨gn,65,none⟩ a) gn (prC q0 { v8 with ws:=n,set:=a }):=by rw[M.out];exact b9
  clear x b7 f7 b8 b9 R A f Q l;generalize ({ v8 with ws:=n,set:=a }:PrV)=v13 at *
  generalize r.setCell ⟨gn,65,none⟩ a=w13 at *;have k8:=S.lt;have k9:=c4.lt;have y:=J6 (show _/\_/\_/\_/\_ from⟨S,c4,f8,f9,g1⟩);clear S c4 f8 f9 g1 j4 d9 j3 M;simp only[Exit.then];apply_assumption
  go_upto_region 13 with fail
  go_loopw [60] (fun i wl=>∃ (k:Nat) (vk:PrV),k<=2/\i=.int .i64 (k:Int)/\Hid (CAt 58 wl gn (prC (if k=0 then q0 else if k=1 then q1 else q2) vk)/\PIn (Nx P w gn) wl (if k=0 then q0 else if k=1 then q1 else q2) vk/\Alt gn w13 wl)) (fun i _=>(2 - intOf i).toNat)
  case atStart=>exact⟨0,v13,by omega,rfl,y.out.1,y.out.2.2.2.1,Alt.refl _ _⟩
  case round =>
   obtain⟨k,vk,hk,rfl,Z⟩:=hrel
   by_cases j6:k<2
   ·have m5:(k:Int)<2:=by omega
    have hk0:(0:Int)<=(k:Int):=by omega
    have e1:(if k=0 then q0 else if k=1 then q1 else q2)=if k=0 then q0 else q1:=by
     rcases (show k=0∨k=1 by omega) with rfl | rfl <;> rfl
    have e2:(if k=0 then q1 else q2)=if k+1=0 then q0 else if k+1=1 then q1 else q2:=by
     rcases (show k=0∨k=1 by omega) with rfl | rfl <;> rfl
    have m6:=Z.out.2.2.size;have ht:=H.out k j6 gn vk wr (Nx P w gn) (by rw[<- e1];exact Z.out.1) (by rw[<- e1];exact Z.out.2.1) (q8B (by omega))
    rw[e2]at ht;have g3:=J6 ht;clear ht e1 e2
    go_upto_region 16 with (go_at_call 80;refine g3.out.mono ?_;rintro e m7⟨g5,rfl,g6,g8,g9⟩)
    have HF:=J6 (show _/\_/\_ from⟨g6,g8.mono (P':=Nx P w gn) (fun b _ hb=>j5V (by omega) (by omega) hb),Z.out.2.2.trans g9⟩)
    clear g6 g8 g9 g3 Z;go_wp2
    first | exact⟨⟨k+1,g5,by omega,by go_num,HF⟩,by simp[intOf];omega⟩ | ((repeat apply Exists.intro);exact⟨⟨k+1,g5,by omega,by go_num,HF⟩,rfl⟩)
   ·obtain rfl:k=2:=by omega
    have h4:CAt 58 wr gn (prC q2 vk):=Z.out.1;have c5:PIn (Nx P w gn) wr q2 vk:=Z.out.2.1;have a0:=Z.out.2.2;have c6:=a0.cat (b:=w.heap.size+1) (by omega) y.out.2.1
    have h5:=y.out.2.2.1.trans (a0.below (by omega) y.out.2.2.1.size)
    have h6:=a0.rep (q8B (P:=P) (w:=w) (g:=gn) (by omega)) y.out.2.2.2.2
    have m9:=z0j h4 (z0b _ _);have n2:=z0k c6 z0d (z0b q2 vk) (z0Y c5);have HZ:=J6 (show _/\_/\_/\_ from⟨c6,h5,c5.mono (P':=New P w 2) (fun _ _ h=>j2l h),h6.mono (P':=New P w 2) (fun _ _ h=>j2l h)⟩);clear h4 c5 a0 c6 h5 h6 Z y H;go_wp2;exact q0h results58 HZ.out.1 z0d HZ.out.2.1 q2 vk x9 _ 0 D HD.out HZ.out.2.2.1 HZ.out.2.2.2 _ rfl rfl rfl rfl
 ·replace HD:=J6 (HD.out.trans (if_neg U))
  have j7:G=false∨(G=true/\isT now=false)∨(G=true/\isT now=true/\now<p.t):=by
   cases G
   ·exact .inl rfl
   ·cases h:isT now
    ·exact .inr (.inl ⟨rfl,rfl⟩)
    ·exact .inr (.inr ⟨rfl,rfl,by have:=U;simp only[h,true_and]at this;omega⟩)
  clear U F H K a6 a5
  rcases j7 with rfl | ⟨rfl,h1⟩ | ⟨rfl,h1,h2⟩
  all_goals
   go_upto_region 2 with (first
    | (go_at_call 67;refine (T.out _ C.out.2.2).mono ?_;rintro e w1⟨rfl,j⟩;clear l0;have a1:w1.cell? ⟨w.heap.size,1,none⟩=some (.int .i64 p.t):=(C.out.1.over j).cell 1)
    | (go_at_call 69;refine (z3E _ _).mono ?_;rintro e w'⟨rfl,rfl⟩))
   have R1:=C.out.2.1.over j;have l1:=z0j (C.out.1.over j) (z0b _ _);have s1:=z0k R1 z0d (z0b p v) E;have B1:=zbt C.out.2.2 j;have HZ:=J6 (show _/\_ from⟨R1,B1⟩);clear R1 B1 j E C T a1;go_wp2;exact q0h results58 HZ.out.1 z0d HZ.out.2 p v (J1 none 0 0) [] 2 D HD.out (HN.out _ HZ.out.2) (Rep.nil _ _ _ _) _ rfl rfl rfl rfl
end Pv
end Go.Proofs.YtddlhnoedldidaaGreat
