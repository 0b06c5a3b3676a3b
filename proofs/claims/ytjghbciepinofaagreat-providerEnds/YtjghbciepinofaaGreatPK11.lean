/- Parts of the proof. -/
import Derived.Test.YtjghbciepinofaaGreatPL
import Derived.Test.YtjghbciepinofaaGreatPK27
set_option maxRecDepth 100000
set_option maxHeartbeats 16000000
namespace Go.Proofs.YtjghbciepinofaaGreat
open Go.Proofs.Tryz
open Value renaming int->J,slice->J1,pointer->J2,bool->J3,agg->J4
open IntKind renaming i64->I
open Obj renaming cells->J5
namespace Pv
open Go.RowKit
attribute [local go_sem ↓] z0O z1c z0J z0L
theorem z7l(g:Nat)(p:Pr)(v:PrV)(P:Nat->Prop)(w:World)(c:Nat)(hc:c<2)(x:Pkt)(y1 y2:Value)(G:CAt 47 w g (prC p v))(hp:PIn P w p v)(hg:¬ P g)(_hgs:z0j p.s=true)(r:x.k=2)(_hv:x.k=3∨x.k=4->0<=x.v/\x.v<6) :
  Calls prog 67 #[J2 (some ⟨g,0,none⟩),J4 #[J I (c:Int),J I x.k,J I x.i,J I x.v,J I x.n,y1,y2]] w (z3l w g P (z0y p c x)):=by
 have hD:z0y p c x=if x.k=2 then ({ p with s:={ p.s with W:=z5g c x.i p.s.W } },true)
  else if x.k=4 then
   if (p.s.V x.v.toNat).dead=true then (p,true) else ({ p with s:=q0k p.s x.v.toNat (q4J x.i (p.L c).base) },true)
  else if (p.s.V x.v.toNat).jail=true then ({ p with L:=z3d p.L c { p.L c with done:=z1F (p.L c).done x.v } },true)
  else if p.ml<1 then (p,false)
  else ({ p with ml:=wrap64 (p.ml - q4K (p.s.V x.v.toNat)),s:=z2V p.s x.v.toNat true (p.s.V x.v.toNat).dead,L:=z3d p.L c { p.L c with done:=z1F (p.L c).done x.v } },true):=by unfold z0y;rfl
 generalize z0y p c x=D at *;have B:=J6 hD;have H:=J6 r;clear r;have HP:=J6 hp;have K:=G.lt;have a0:(c:Int)<2:=by omega
 have a1:(0:Int)<=(c:Int):=by omega
 clear hD
 go_enter func67,ntmps67
 go_upto_region 1 with fail
 have E:=CAt.new 79 w #[J I (c:Int),J I x.k,J I x.i,J I x.v,J I x.n,y1,y2];have b0:Bl w (w.alloc (J5 #[J I (c:Int),J I x.k,J I x.i,J I x.v,J I x.n,y1,y2] 79)):=znw w _;generalize w.alloc (J5 #[J I (c:Int),J I x.k,J I x.i,J I x.v,J I x.n,y1,y2] 79)=w0 at *;have k0:w0.cell? ⟨w.heap.size,0,none⟩=some (J I (c:Int)):=E.cell 0;have a2:=E.lt;have F:=J6 (show _/\_/\_ from⟨G.over b0,E,b0⟩);clear G hp E b0;go_quiet (fail);simp only[Exit.then];apply_assumption;have C1:=F.out.1.over (below_drewN (Below.refl w0.heap.size w0) nq);have j:=F.out.2.1.over (below_drewN (Below.refl w0.heap.size w0) nq);have b1:=below_drewN F.out.2.2 nq;clear k0 F;generalize w0.drewN nq=w1 at *;have M:w1.cell? ⟨w.heap.size,0,none⟩=some (J I (c:Int)):=j.cell 0;have k1:w1.cell? ⟨w.heap.size,1,none⟩=some (J I x.k):=j.cell 1;have k2:w1.cell? ⟨w.heap.size,2,none⟩=some (J I x.i):=j.cell 2;have k3:w1.cell? ⟨w.heap.size,3,none⟩=some (J I x.v):=j.cell 3;have N:=j.lt;have Q:=C1.lt;have P1:=HP.out.z2w b1 0;have m1:=z1f C1;have l:=J6 (show _/\_/\_/\_ from⟨C1,j,b1,P1⟩);clear C1 j b1 P1;have r:=H.out;rw[r]at k1;replace B:=J6 (B.out.trans (if_pos r));obtain⟨s',m⟩:∃ s':St,{ p.s with W:=z5g c x.i p.s.W }=s':=⟨_,rfl⟩
 have t:z5g c x.i p.s.W=s'.W:=by rw[<- m]
 have d:=fun (wx:World) (hb:Bl w1 wx)=>q9t (l.out.2.2.2.ws.over hb) c x.i hc;rw[m]at d B;rw[t]at d;have R:=J6 d;clear d m t;have S:=z1f (l.out.1.over (Below.refl w1.heap.size w1).drew)
 go_upto_region 4 with fail
 apply z5b (fun u w'=>∃ a,w'=a.setCells g 2 (stC s' u).toList/\Bl w1 a/\Rep (fun b=>w1.heap.size<=b) a u 8 64 (wsL s'.W))
 ·refine wp_region_noPanic ?_;have T:Hid (∀ (a:World) (f:Value),Bl w1 a->(∃ A n C,f=J1 A n C)->∃ U,U=a.setCells g 2 (stC s' f).toList/\(z6s (J2 (some ⟨g,2,none⟩)) (J4 (stC s' f))).run prog a=.ok () U):=fun a f b3 h3=>⟨_,rfl,z1x (l.out.1.over b3) (z0c _ _) (z0d s' f) (z3h s' h3)⟩;have X:=J6 (R.out w1.drew (Below.refl _ _).drew)
  go_region_with (go_at_call 110;refine X.out.mono ?_;rintro e a⟨f,rfl,y,Y⟩;have b3:=(Below.refl w1.heap.size w1).drew.trans Y;obtain⟨U,z,a3⟩:=T.out a f b3 y.one';have Z:=J6 z;clear z)
  all_goals
   exact NoPanic.normal ⟨f,rfl,rfl,a,Z.out,b3,y⟩
 rintro u w'⟨a,rfl,b3,y⟩;have C4:=(l.out.1.over b3).z0I s' u;have A4:=(Alt.of (g:=g) (zbt l.out.2.2.1 b3)).sets (stC s' u).toList 2;have a4:=l.out.2.2.1.size;have U4:=y.sets (g:=g) (fun h=>by omega) 2 (stC s' u).toList
 have N4:=(l.out.2.2.2.over b3).sets (g:=g) (z1t hg K) 2 (stC s' u).toList;have o:=J6 (show _/\_/\_/\_ from⟨C4,A4,U4,N4⟩);clear C4 A4 U4 N4 b3 y m1 S M k1 k2 k3 N Q;generalize a.setCells g 2 (stC s' u).toList=w4 at *;simp only[Exit.inBlock,Exit.then];apply_assumption;go_wp2;go_ret;have hd:=B.out;rw[hd];exact⟨{ v with ws:=u },rfl,o.out.1,⟨o.out.2.2.1.mono fun b _ h=>.inr (by omega),o.out.2.2.2.set,o.out.2.2.2.lk,o.out.2.2.2.q⟩,o.out.2.1⟩
theorem q0H(g:Nat)(p:Pr)(v:PrV)(P:Nat->Prop)(w:World)(c:Nat)(S:c<2)(x:Pkt)(y1 y2:Value)(q:CAt 47 w g (prC p v))(y:PIn P w p v)(B:¬ P g)(_hgs:z0j p.s=true)(f:x.k=3)(_hv:x.k=3∨x.k=4->0<=x.v/\x.v<6)
  (j:x.k=3->∀ (wx:World) (v:PrV) (P':Nat->Prop),CAt 47 wx g (prC p v)->PIn P' wx p v->¬ P' g->Calls prog 111 #[J2 (some ⟨g,0,none⟩),J2 (some ⟨g,66+c * 14,none⟩),J I x.v] wx (z3l wx g P' (z0y p c x))) :
  Calls prog 67 #[J2 (some ⟨g,0,none⟩),J4 #[J I (c:Int),J I x.k,J I x.i,J I x.v,J I x.n,y1,y2]] w (z3l w g P (z0y p c x)):=by
 have z:z0y p c x=if x.k=2 then ({ p with s:={ p.s with W:=z5g c x.i p.s.W } },true)
  else if x.k=4 then
   if (p.s.V x.v.toNat).dead=true then (p,true) else ({ p with s:=q0k p.s x.v.toNat (q4J x.i (p.L c).base) },true)
  else if (p.s.V x.v.toNat).jail=true then ({ p with L:=z3d p.L c { p.L c with done:=z1F (p.L c).done x.v } },true)
  else if p.ml<1 then (p,false)
  else ({ p with ml:=wrap64 (p.ml - q4K (p.s.V x.v.toNat)),s:=z2V p.s x.v.toNat true (p.s.V x.v.toNat).dead,L:=z3d p.L c { p.L c with done:=z1F (p.L c).done x.v } },true):=by unfold z0y;rfl
 generalize z0y p c x=D at *;have T:=J6 z;have r:=J6 f;clear f;have a:=J6 j;have C:=J6 y;have t:=q.lt;have E:(c:Int)<2:=by omega
 have F:(0:Int)<=(c:Int):=by omega
 clear z j
 go_enter func67,ntmps67
 go_upto_region 1 with fail
 have l:=CAt.new 79 w #[J I (c:Int),J I x.k,J I x.i,J I x.v,J I x.n,y1,y2];have b0:Bl w (w.alloc (J5 #[J I (c:Int),J I x.k,J I x.i,J I x.v,J I x.n,y1,y2] 79)):=znw w _;generalize w.alloc (J5 #[J I (c:Int),J I x.k,J I x.i,J I x.v,J I x.n,y1,y2] 79)=w0 at *;have G:w0.cell? ⟨w.heap.size,0,none⟩=some (J I (c:Int)):=l.cell 0;have H:=l.lt;have m:=J6 (show _/\_/\_ from⟨q.over b0,l,b0⟩);clear q y l b0;go_quiet (fail);simp only[Exit.then];apply_assumption;have C1:=m.out.1.over (below_drewN (Below.refl w0.heap.size w0) nq);have d:=m.out.2.1.over (below_drewN (Below.refl w0.heap.size w0) nq);have b1:=below_drewN m.out.2.2 nq;clear G m;generalize w0.drewN nq=w1 at *;have K:w1.cell? ⟨w.heap.size,0,none⟩=some (J I (c:Int)):=d.cell 0;have M:w1.cell? ⟨w.heap.size,1,none⟩=some (J I x.k):=d.cell 1;have U:w1.cell? ⟨w.heap.size,2,none⟩=some (J I x.i):=d.cell 2;have X:w1.cell? ⟨w.heap.size,3,none⟩=some (J I x.v):=d.cell 3;have N:=d.lt;have Q:=C1.lt;have A:=C.out.z2w b1 0;have Y:=z1f C1;have o:=J6 (show _/\_/\_/\_ from⟨C1,d,b1,A⟩);clear C1 d b1 A;have f:=r.out;rw[f]at M;replace a:=J6 (a.out f);have u:=J6 (a.out w1 v _ o.out.1 o.out.2.2.2 (z1t B t));clear a
 go_wp2_with (go_at_call 111;refine u.out.mono ?_;rintro e Z⟨v2,rfl,C2,R,A2⟩)
 go_ret;refine⟨v2,rfl,C2,R.mono fun b _ h=>?_,(Alt.of o.out.2.2.1).trans A2⟩
 rcases h with⟨h,_⟩ | h
 ·exact h
 ·exact .inr (by have:=o.out.2.2.1.size;omega)
end Pv
end Go.Proofs.YtjghbciepinofaaGreat
