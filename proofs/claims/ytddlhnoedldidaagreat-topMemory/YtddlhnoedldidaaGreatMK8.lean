/- Parts of the proof. -/
import Derived.Test.YtddlhnoedldidaaGreatML
import Derived.Test.YtddlhnoedldidaaGreatMK41
set_option maxRecDepth 100000
set_option maxHeartbeats 16000000
namespace Go.Proofs.YtddlhnoedldidaaGreat
open Go.Proofs.Tryz
open Value renaming int->J,slice->J1,pointer->J2,bool->J3,agg->J4
open IntKind renaming i64->I
open Obj renaming cells->J5
namespace Pv
open Go.RowKit
attribute [local go_sem ↓] z1B z0H z0w z1w
theorem z9j(g:Nat)(p:Pr)(v:PrV)(P:Nat->Prop)(w:World)(c:Nat)(hc:c<2)(x:Pkt)(E F:Value)(N:CAt 58 w g (prC p v))(hp:PIn P w p v)(hg:¬ P g)(_hgs:z0m p.s=true)(t:x.k=2)(_hv:x.k=3∨x.k=4->0<=x.v/\x.v<6) :
  Calls prog 109 #[J2 (some ⟨g,0,none⟩),J4 #[J I (c:Int),J I x.k,J I x.i,J I x.v,J I x.n,E,F]] w (z4d w g P (z1L p c x)):=by
 have hD:z1L p c x=if x.k=2 then ({ p with s:={ p.s with W:=z5f c x.i p.s.W } },true)
  else if x.k=4 then
   if (p.s.V x.v.toNat).dead=true then (p,true) else ({ p with s:=q1H p.s x.v.toNat (j4e x.i (p.L c).base) },true)
  else if (p.s.V x.v.toNat).jail=true then ({ p with L:=z1a p.L c { p.L c with done:=z2P (p.L c).done x.v } },true)
  else if p.ml<1 then (p,false)
  else ({ p with ml:=wrap64 (p.ml - j3S (p.s.V x.v.toNat)),s:=z5Q p.s x.v.toNat true (p.s.V x.v.toNat).dead,L:=z1a p.L c { p.L c with done:=z2P (p.L c).done x.v } },true):=by unfold z1L;rfl
 generalize z1L p c x=D at *;have G:=J6 hD;have Q:=J6 t;clear t;have HP:=J6 hp;have R:=N.lt;have a3:(c:Int)<2:=by omega
 have a4:(0:Int)<=(c:Int):=by omega
 clear hD
 go_enter func109,ntmps109
 go_upto_region 1 with fail
 have H:=CAt.new 70 w #[J I (c:Int),J I x.k,J I x.i,J I x.v,J I x.n,E,F];have b0:Bl w (w.alloc (J5 #[J I (c:Int),J I x.k,J I x.i,J I x.v,J I x.n,E,F] 70)):=znw w _;generalize w.alloc (J5 #[J I (c:Int),J I x.k,J I x.i,J I x.v,J I x.n,E,F] 70)=w0 at *;have k0:w0.cell? ⟨w.heap.size,0,none⟩=some (J I (c:Int)):=H.cell 0;have a5:=H.lt;have K:=J6 (show _/\_/\_ from⟨N.over b0,H,b0⟩);clear N hp H b0;go_quiet (fail);simp only[Exit.then];apply_assumption;have M:=K.out.1.over (below_drewN (Below.refl w0.heap.size w0) nq);have l:=K.out.2.1.over (below_drewN (Below.refl w0.heap.size w0) nq);have b1:=below_drewN K.out.2.2 nq;clear k0 K;generalize w0.drewN nq=w1 at *;have S:w1.cell? ⟨w.heap.size,0,none⟩=some (J I (c:Int)):=l.cell 0;have k1:w1.cell? ⟨w.heap.size,1,none⟩=some (J I x.k):=l.cell 1;have k2:w1.cell? ⟨w.heap.size,2,none⟩=some (J I x.i):=l.cell 2;have k3:w1.cell? ⟨w.heap.size,3,none⟩=some (J I x.v):=l.cell 3;have T:=l.lt;have U:=M.lt;have P1:=HP.out.z2y b1 0;have m1:=z2a M;have m:=J6 (show _/\_/\_/\_ from⟨M,l,b1,P1⟩);clear M l b1 P1;have t:=Q.out;rw[t]at k1;replace G:=J6 (G.out.trans (if_pos t));obtain⟨a,o⟩:∃ a:St,{ p.s with W:=z5f c x.i p.s.W }=a:=⟨_,rfl⟩
 have y:z5f c x.i p.s.W=a.W:=by rw[<- o]
 have f:=fun (wx:World) (hb:Bl w1 wx)=>j2K (m.out.2.2.2.ws.over hb) c x.i hc;rw[o]at f G;rw[y]at f;have X:=J6 f;clear f o y;have Y:=z2a (m.out.1.over (Below.refl w1.heap.size w1).drew)
 go_upto_region 4 with fail
 apply q3v (fun u w'=>∃ d,w'=d.setCells g 2 (stC a u).toList/\Bl w1 d/\Rep (fun b=>w1.heap.size<=b) d u 8 64 (wsL a.W))
 ·refine wp_region_noPanic ?_;have Z:Hid (∀ (d:World) (j:Value),Bl w1 d->(∃ A n C,j=J1 A n C)->∃ wS,wS=d.setCells g 2 (stC a j).toList/\(q1l (J2 (some ⟨g,2,none⟩)) (J4 (stC a j))).run prog d=.ok () wS):=fun d j b3 h3=>⟨_,rfl,z2D (m.out.1.over b3) (z0b _ _) (z0f a j) (z6r a h3)⟩;have a0:=J6 (X.out w1.drew (Below.refl _ _).drew)
  go_region_with (go_at_call 128;refine a0.out.mono ?_;rintro e d⟨j,rfl,z,a1⟩;have b3:=(Below.refl w1.heap.size w1).drew.trans a1;obtain⟨wS,B,a6⟩:=Z.out d j b3 z.one';have a2:=J6 B;clear B)
  all_goals
   exact NoPanic.normal ⟨j,rfl,rfl,d,a2.out,b3,z⟩
 rintro u w'⟨d,rfl,b3,z⟩;have C4:=(m.out.1.over b3).z1g a u;have A4:=(Alt.of (g:=g) (zbt m.out.2.2.1 b3)).sets (stC a u).toList 2;have a7:=m.out.2.2.1.size;have U4:=z.sets (g:=g) (fun h=>by omega) 2 (stC a u).toList
 have N4:=(m.out.2.2.2.over b3).sets (g:=g) (z0I hg R) 2 (stC a u).toList;have r:=J6 (show _/\_/\_/\_ from⟨C4,A4,U4,N4⟩);clear C4 A4 U4 N4 b3 z m1 Y S k1 k2 k3 T U;generalize d.setCells g 2 (stC a u).toList=w4 at *;simp only[Exit.inBlock,Exit.then];apply_assumption;go_wp2;go_ret;have hd:=G.out;rw[hd];exact⟨{ v with ws:=u },rfl,r.out.1,⟨r.out.2.2.1.mono fun b _ h=>.inr (by omega),r.out.2.2.2.set,r.out.2.2.2.lk,r.out.2.2.2.q⟩,r.out.2.1⟩
theorem q4g(g:Nat)(p:Pr)(v:PrV)(P:Nat->Prop)(w:World)(c:Nat)(hc:c<2)(x:Pkt)(l m:Value)(y:CAt 58 w g (prC p v))(hp:PIn P w p v)(F:¬ P g)(_hgs:z0m p.s=true)(f:x.k=3)(_hv:x.k=3∨x.k=4->0<=x.v/\x.v<6)
  (j:x.k=3->∀ (o:World) (v:PrV) (P':Nat->Prop),CAt 58 o g (prC p v)->PIn P' o p v->¬ P' g->Calls prog 152 #[J2 (some ⟨g,0,none⟩),J2 (some ⟨g,66+c * 14,none⟩),J I x.v] o (z4d o g P' (z1L p c x))) :
  Calls prog 109 #[J2 (some ⟨g,0,none⟩),J4 #[J I (c:Int),J I x.k,J I x.i,J I x.v,J I x.n,l,m]] w (z4d w g P (z1L p c x)):=by
 have C:z1L p c x=if x.k=2 then ({ p with s:={ p.s with W:=z5f c x.i p.s.W } },true)
  else if x.k=4 then
   if (p.s.V x.v.toNat).dead=true then (p,true) else ({ p with s:=q1H p.s x.v.toNat (j4e x.i (p.L c).base) },true)
  else if (p.s.V x.v.toNat).jail=true then ({ p with L:=z1a p.L c { p.L c with done:=z2P (p.L c).done x.v } },true)
  else if p.ml<1 then (p,false)
  else ({ p with ml:=wrap64 (p.ml - j3S (p.s.V x.v.toNat)),s:=z5Q p.s x.v.toNat true (p.s.V x.v.toNat).dead,L:=z1a p.L c { p.L c with done:=z2P (p.L c).done x.v } },true):=by unfold z1L;rfl
 generalize z1L p c x=D at *;have X:=J6 C;have z:=J6 f;clear f;have a:=J6 j;have G:=J6 hp;have A:=y.lt;have H:(c:Int)<2:=by omega
 have K:(0:Int)<=(c:Int):=by omega
 clear C j
 go_enter func109,ntmps109
 go_upto_region 1 with fail
 have q:=CAt.new 70 w #[J I (c:Int),J I x.k,J I x.i,J I x.v,J I x.n,l,m];have b0:Bl w (w.alloc (J5 #[J I (c:Int),J I x.k,J I x.i,J I x.v,J I x.n,l,m] 70)):=znw w _;generalize w.alloc (J5 #[J I (c:Int),J I x.k,J I x.i,J I x.v,J I x.n,l,m] 70)=w0 at *;have k0:w0.cell? ⟨w.heap.size,0,none⟩=some (J I (c:Int)):=q.cell 0;have M:=q.lt;have r:=J6 (show _/\_/\_ from⟨y.over b0,q,b0⟩);clear y hp q b0;go_quiet (fail);simp only[Exit.then];apply_assumption;have t:=r.out.1.over (below_drewN (Below.refl w0.heap.size w0) nq);have d:=r.out.2.1.over (below_drewN (Below.refl w0.heap.size w0) nq);have b1:=below_drewN r.out.2.2 nq;clear k0 r;generalize w0.drewN nq=w1 at *;have N:w1.cell? ⟨w.heap.size,0,none⟩=some (J I (c:Int)):=d.cell 0;have k1:w1.cell? ⟨w.heap.size,1,none⟩=some (J I x.k):=d.cell 1;have Y:w1.cell? ⟨w.heap.size,2,none⟩=some (J I x.i):=d.cell 2;have Z:w1.cell? ⟨w.heap.size,3,none⟩=some (J I x.v):=d.cell 3;have Q:=d.lt;have R:=t.lt;have E:=G.out.z2y b1 0;have m1:=z2a t;have u:=J6 (show _/\_/\_/\_ from⟨t,d,b1,E⟩);clear t d b1 E;have f:=z.out;rw[f]at k1;replace a:=J6 (a.out f);have B:=J6 (a.out w1 v _ u.out.1 u.out.2.2.2 (z0I F A));clear a
 go_wp2_with (go_at_call 152;refine B.out.mono ?_;rintro e w2⟨v2,rfl,S,T,U⟩)
 go_ret;refine⟨v2,rfl,S,T.mono fun b _ h=>?_,(Alt.of u.out.2.2.1).trans U⟩
 rcases h with⟨h,_⟩ | h
 ·exact h
 ·exact .inr (by have:=u.out.2.2.1.size;omega)
end Pv
end Go.Proofs.YtddlhnoedldidaaGreat
