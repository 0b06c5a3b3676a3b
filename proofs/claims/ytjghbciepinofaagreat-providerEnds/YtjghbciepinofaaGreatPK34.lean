/- Parts of the proof. -/
import Derived.Test.YtjghbciepinofaaGreatPL
import Derived.Test.YtjghbciepinofaaGreatPK42
set_option maxRecDepth 100000
set_option maxHeartbeats 16000000
namespace Go.Proofs.YtjghbciepinofaaGreat
open Go.Proofs.Tryz
open Value renaming int->J,slice->J1,pointer->J2,bool->J3,agg->J4
open IntKind renaming i64->I
open Obj renaming cells->J5
namespace Pv
open Go.RowKit
theorem q9G{L:Nat->Lk}{a:Int×Pkt}(h:z3i L a=true):(0<=a.1/\a.1<2)/\q8N a.2:=by
 obtain⟨d,e,f⟩:=q2u h;refine⟨d,e,?_⟩
 by_cases g:a.2.k=2
 ·unfold z3i at h;simp only[Bool.and_eq_true,decide_eq_true_eq]at h;have b:=h.2
  have h0:a.2.v=0:=by
   refine Classical.byContradiction fun c=>?_;have j:Cd.z4x a.2.k a.2.v a.2.n a.2.S.length a.2.D.length=true:=by simp[Cd.z4x,Cd.z3N,g,c]
   unfold Cd.z0o at b
   by_cases h1:a.2.k<1∨4<a.2.k
   ·rw[if_pos h1]at b;omega
   rw[if_neg h1]at b
   by_cases h2:a.2.i<1∨1099511627776<a.2.i
   ·rw[if_pos h2]at b;omega
   rw[if_neg h2]at b
   by_cases h3:Cd.z3N a.2.k=true/\(Cd.isV a.2.v=false∨a.2.n<1∨1125899906842624<a.2.n)
   ·rw[if_pos h3]at b;omega
   rw[if_neg h3,if_pos j]at b;omega
  omega
 ·exact f (by omega)
theorem q1Z{p:Pr}(b:z1s p=true):∀ a∈p.q,(0<=a.1/\a.1<2)/\q8N a.2:=fun a c=>by
 unfold z1s at b;simp only[Bool.and_eq_true]at b;exact q9G (List.all_eq_true.1 b.2 a c)
theorem q3f{p:Pr}(a:z1s p=true)(now:Int):z0j (z3e (z0H (z0Z p now)).s now)=true:=z9S (z5Q a now).1 now
theorem q5P{p:Pr}(a:z1s p=true)(now:Int):z2h (-1) (z3X (z0H (z0Z p now)) now).set=true:=q0b fun _ b=>(q9j (q3f a now) b).2
theorem q3i{p:Pr}(a:z1s p=true)(now:Int):∀ c,c<2->z2h (-1) ((z3X (z0H (z0Z p now)) now).L c).told=true:=fun c f=>by
 have e:((z3X (z0H (z0Z p now)) now).L c).told=(p.L c).told:=((z6p (z0Z p now)).lk c).told;rw[e];unfold z1s at a;simp only[Bool.and_eq_true,z1L]at a;obtain⟨⟨-,⟨⟨-,⟨⟨-,b⟩,-⟩⟩,⟨-,⟨⟨-,d⟩,-⟩⟩⟩⟩,-⟩:=a
 rcases (show c=0∨c=1 by omega) with rfl | rfl
 ·exact b
 ·exact d
theorem q9w(p:Pr)(now:Int):(z3X (z0H (z0Z p now)) now).t=now:=(z6p (z0Z p now)).t
theorem RQu.told{P:Nat->Prop}{w1 wl:World}{g:Nat}{r:Pr}(h:RQu P w1 g r wl)(k:¬ P g)(d:g<w1.heap.size)(o:r.q.length * 88<=140737488351232):TQu P w1 g r wl:=by
 obtain⟨v,Q,z,p,f,w,-,-,B,C,l⟩:=h.st;have key:∀ {u:Value} {s t:Nat} {cs:List Value},Rep P w1 u s t cs->Rep (New P w1 0) wl u s t cs:=fun D=>((D.mono (P':=fun b=>P b/\b<w1.heap.size) fun _ hl f=>⟨f,hl⟩).keep (w':=wl) fun b a j=>h.A.block b j fun e=>k (e ▸ a.1)).mono fun _ _ a=>.inl a;have c:=f.mono (P':=New P w1 0) fun b _ a=>w b a;exact⟨⟨v,New P w1 0,p,⟨c.ws,c.set,c.lk,z,B,(Rep.own C (by omega)).mono fun b _ a=>.inr (by omega),fun i x y m n=>⟨key (l i x y m n).1,key (l i x y m n).2⟩⟩,fun _ a=>a,z1t k d⟩,h.A⟩
theorem q7F{P:Nat->Prop}{w:World}{s:St}{u:Value}(hu:Rep P w u 8 64 (wsL s.W))(t:Int)(a:z0j s=true):Calls prog 49 #[J4 (stC s u),J I t] w fun e w'=>∃ c x,e=.returned (.tuple #[J4 (stC (z3e s t) c),x,J I 0])/\Rep (fun b=>w.heap.size<=b) w' c 8 64 (wsL (z3e s t).W)/\Rep (fun b=>w.heap.size<=b) w' x 1 8 (inC (z0D t s.W))/\Bl w w':=by
 obtain⟨A,C,b,o,rfl,W,-,-⟩:=hu.z8v;refine (z9p s A b o C t w W a).mono ?_;rintro e w'⟨A',C',A2,C2,rfl,h1,h2,d⟩;have f:=((z0S _).1 a).2.2.2.1
 have g:(z0D t s.W).length<=s.W.length:=by
  unfold z0D z4y;rw[List.length_map];exact List.length_filter_le _ _
 exact⟨_,_,rfl,z1k.rep h1 (z2T (q0a a t).good),z5W.rep h2 (by omega),d⟩
theorem q7c{P:Nat->Prop}{w:World}{v:Value}{l:List (Int×Int)}(h:Rep P w v 2 16 (pwC l)):Calls prog 47 #[v] w fun e w'=>e=.returned (J I (Df.z6c l))/\Bl w w':=by
 obtain⟨ao,c,b,off,rfl,a⟩:=h.pin;exact q6u l ao c b off w a
theorem q7Q{s:St}(a:z0j s=true)(u:Value)(w:World):Calls prog 50 #[J4 (stC s u)] w fun e w'=>∃ v,e=.returned v/\Rep (fun b=>w.heap.size<=b) w' v 2 16 (pwC (z4Y s.V))/\Bl w w':=q4N s u w fun _ c=>q9j a c
theorem PIn.copy{w w1 a c:World}{p:Pr}{v:PrV}(h:PIn (fun b=>w1.heap.size+2<=b) a p v)(e:w.heap.size<=w1.heap.size)(d:Bl a c):PIn (fun b=>w.heap.size+2<=b/\b≠a.heap.size) c p v:=
 (h.mono (P':=fun b=>w.heap.size+2<=b/\b≠a.heap.size) fun b hl d=>⟨by omega,by omega⟩).over d
end Pv
namespace Pv
open Go.RowKit
attribute [local go_sem ↓] z8n
attribute [local go_sem ↓] z0O z1c z0J z0L
set_option maxRecDepth 1000000 in
theorem q2y(p:Pr)(v:PrV)(P:Nat->Prop)(w:World)(now:Int)(hp:PIn P w p v)(E:p.q.length * 88<=140737488351232) :
  Calls prog 17 #[J4 (prC p v),.int .i64 now] w (q9F P w (endP p now)):=by
 have hD:endP p now=if z1s p=true/\isT now=true/\p.t<=now then (tells (z3X (z0H (z0Z p now)) now) 2,z0D now (z0H (z0Z p now)).s.W,0) else (p,[],2):=rfl;generalize endP p now=D at *;have HD:=J6 hD;clear hD;have a5:=z2y hp;have Z:=J6 (fun (wx:World) (d:Bl w wx)=>q2q p v P wx (hp.over d));have d7:=J6 (fun (wx:World) (d:Bl w wx)=>z8a p v P wx (hp.over d) E);have HN:=J6 (fun (wx:World) (d:Bl w wx)=>hp.z2w d 2);have HP:=J6 hp
 have b5:Hid (z1s p=true->0<=p.h/\p.h<=1099511627775/\0<=p.t):=fun h=>by
  unfold z1s at h;simp only[Bool.and_eq_true,decide_eq_true_eq]at h;exact⟨h.1.1.1.1.1.1.2,h.1.1.1.1.1.2,h.1.1.1.1.2⟩
 have l:Hid (z1s p=true->(∀ a∈p.q,(0<=a.1/\a.1<2)/\q8N a.2)/\q0R (z0Z p now)/\z0j (z0H (z0Z p now)).s=true/\z2h (-1) (z3X (z0H (z0Z p now)) now).set=true/\∀ c,c<2->z2h (-1) ((z3X (z0H (z0Z p now)) now).L c).told=true):=fun h=>⟨q1Z h,z7u h now,(z5Q h now).1,q5P h now,q3i h now⟩;have b7:Hid ((z0H (z0Z p now)).q.length<=p.q.length):=by have:=(z7s (z0Z p now).q ⟨z0Z p now,fun _=>false,[]⟩).2;simpa [Hid,z0H,goQ,z0Z] using this
 have d8:Hid ((z3X (z0H (z0Z p now)) now).t=now):=q9w p now;have b9:=J6 E;clear hp E;generalize z1s p=G at *
 go_enter func17,ntmps17
 go_upto_region 1 with fail
 change Code.wp prog _ _ _ ((w.alloc (J5 (prC p v) 47)).alloc (J5 zeroCells47 47));have C0:CAt 47 ((w.alloc (J5 (prC p v) 47)).alloc (J5 zeroCells47 47)) w.heap.size (prC p v):=(CAt.new _ w _).alloc _;have R0:CAt 47 ((w.alloc (J5 (prC p v) 47)).alloc (J5 zeroCells47 47)) (w.heap.size+1) zeroCells47:=CAt.new2 _ w _ _;have B0:Bl w ((w.alloc (J5 (prC p v) 47)).alloc (J5 zeroCells47 47)):=(znw w _).alloc (by simp) _
 generalize (w.alloc (J5 (prC p v) 47)).alloc (J5 zeroCells47 47)=w0 at *;have l0:=z0t C0 (z0c _ _);have A:=J6 (show _/\_/\_ from⟨C0,R0,B0⟩);clear C0 R0 B0
 by_cases a0:G=true/\p.t<=now/\now<=1099511627776
 ·obtain⟨rfl,h9,i0⟩:=a0;obtain⟨v8,w3,x0⟩:=b5.out rfl;have i1:isT now=true:=by simp[isT];omega
  replace HD:=J6 (HD.out.trans (if_pos ⟨rfl,i1,h9⟩));replace l:=J6 (l.out rfl);clear b5
  go_upto_region 3 with (go_at_call 45;refine (Z.out _ A.out.2.2).mono ?_;rintro e w1⟨rfl,g⟩;clear l0;have a1:w1.cell? ⟨w.heap.size,1,none⟩=some (.int .i64 p.t):=(A.out.1.over g).cell 1)
  have C1:=A.out.1.over g;have R1:=A.out.2.1.over g;have B1:=zbt A.out.2.2 g;have l1:=z0t C1 (z0c _ _);have k1:=R1.lt;have H1:=J6 (show _/\_/\_ from⟨C1,R1,B1⟩);clear C1 R1 B1 g A Z a1
  go_upto_region 4 with (go_at_call 16;refine (d7.out _ H1.out.2.2).mono ?_;rintro e C⟨vc,rfl,c4,c5⟩;clear l1;have s1:=z0z (CAt.new 47 C zeroCells47) z0h (z0c p vc) (z2y c4.pin))
  have bS:Bl C ((C.alloc (J5 zeroCells47 47)).setCells C.heap.size 0 (prC p vc).toList):=z0b (Nat.le_refl _) _ _ _ (znw C _);have N2:CAt 47 ((C.alloc (J5 zeroCells47 47)).setCells C.heap.size 0 (prC p vc).toList) C.heap.size (prC p vc):=(CAt.new 47 C zeroCells47).z0C (by rw[z0h];rfl)
  have a2:=zbt c5 bS;have C2:=H1.out.1.over a2;have R2:=H1.out.2.1.over a2;have B2:=zbt H1.out.2.2 a2;have P2:=PIn.copy (w:=w) c4.pin (by omega) bS
  have x1:=c5.size;clear bS s1 a2 c5 c4 H1;generalize (C.alloc (J5 zeroCells47 47)).setCells C.heap.size 0 (prC p vc).toList=w2 at *;generalize C.heap.size=gn at *;have n0:w2.cell? ⟨gn,0,none⟩=some (.int .i64 p.h):=N2.cell 0;have n1:w2.cell? ⟨gn,1,none⟩=some (.int .i64 p.t):=N2.cell 1;have i2:=N2.free 0;have i3:=N2.free 1;have x2:IntKind.i64.wrap (p.h+1)=p.h+1:=z5V (by omega) (by omega)
  have N4:=(N2.set 0 (.int .i64 (p.h+1))).set 1 (.int .i64 now);rw[q8Y,q9s]at N4;have C4:=(C2.other (c:=gn) (o:=0) (by omega) (.int .i64 (p.h+1))).other (c:=gn) (o:=1) (by omega) (.int .i64 now)
  have R4:=(R2.other (c:=gn) (o:=0) (by omega) (.int .i64 (p.h+1))).other (c:=gn) (o:=1) (by omega) (.int .i64 now)
  have B4:=(B2.setCell (p:=⟨gn,0,none⟩) (by show _<=gn;omega) (.int .i64 (p.h+1))).setCell (p:=⟨gn,1,none⟩) (by show _<=gn;omega) (.int .i64 now)
  have j:¬ (fun b=>w.heap.size+2<=b/\b≠gn) gn:=fun h=>h.2 rfl;have P4:=(P2.keep (w':=w2.setCell ⟨gn,0,none⟩ (.int .i64 (p.h+1))) fun b d _=>Below.heap_setCell _ _ _ _ d.2).keep (w':=(w2.setCell ⟨gn,0,none⟩ (.int .i64 (p.h+1))).setCell ⟨gn,1,none⟩ (.int .i64 now)) fun b d _=>Below.heap_setCell _ _ _ _ d.2;have k2:=N2.lt;clear C2 R2 B2 N2 P2
  go_upto_region 6 with fail
  clear n0 n1 i2 i3;generalize (w2.setCell ⟨gn,0,none⟩ (.int .i64 (p.h+1))).setCell ⟨gn,1,none⟩ (.int .i64 now)=w4 at *;obtain⟨⟨-,-,i4,i5,i6,-⟩,-⟩:=z0E C4;have i7:w4.cell? ⟨gn,94,none⟩=some (.int .i64 p.ml):=N4.cell 94;have i8:w4.cell? ⟨gn,95,none⟩=some (.int .i64 p.mn):=N4.cell 95;have i9:=N4.free 94;have j0:=N4.free 95;have j1:=C4.lt;have j2:=N4.lt;have d9:=J6 (fun (wx:World) (d:Bl w wx)=>q7c (HP.out.set.over d));have H4:=J6 (show _/\_/\_/\_/\_ from⟨N4,C4,R4,B4,P4⟩);clear N4 C4 R4 B4 P4;have e0:=J6 (q0m p.set);have c6:Hid (z0Z p now={ p with h:=p.h+1,t:=now,ml:=if now<p.mn then p.ml else Mt.alw (Df.z6c p.set),mn:=if now<p.mn then p.mn else wrap64 (now+10) }):=rfl
  have e1:=J6 (fun (wx:World)=>Mt.q0G p.ml p.mn (Df.z6c p.set) now e0.out wx);generalize Df.z6c p.set=al at *;generalize (if now<p.mn then p.ml else Mt.alw al)=ml' at *;generalize (if now<p.mn then p.mn else wrap64 (now+10))=mn' at *;apply z2d (fun w'=>∃ w6,w'=(w6.setCell ⟨gn,94,none⟩ (.int .i64 ml')).setCell ⟨gn,95,none⟩ (.int .i64 mn')/\Bl w4 w6)
  ·refine wp_region_noPanic ?_
   go_region_with (first
    | (go_at_call 47;refine (d9.out _ (by exact H4.out.2.2.2.1.drew)).mono ?_;rintro e w5⟨rfl,c7⟩;have N5:=H4.out.1.over ((Below.refl _ _).drew.trans c7);have x3:w5.cell? ⟨gn,94,none⟩=some (.int .i64 p.ml):=N5.cell 94;have x4:w5.cell? ⟨gn,95,none⟩=some (.int .i64 p.mn):=N5.cell 95;clear N5)
    | (go_at_call 46;refine (e1.out _).mono ?_;rintro e w6⟨rfl,e2⟩;have N6:=(H4.out.1.over ((Below.refl _ _).drew.trans c7)).over e2;have x5:w6.cell? ⟨gn,94,none⟩=some (.int .i64 p.ml):=N6.cell 94;have x6:w6.cell? ⟨gn,95,none⟩=some (.int .i64 p.mn):=N6.cell 95;have k3:=N6.free 94;have k4:=N6.free 95;have x7:=N6.lt;clear N6))
   all_goals
    have j3:=(Below.refl w4.heap.size w4).drew.trans c7;exact NoPanic.normal ⟨rfl,rfl,_,rfl,zbt j3 e2⟩
  rintro w'⟨w6,rfl,b6⟩;have N7:=((H4.out.1.over b6).set 94 (.int .i64 ml')).set 95 (.int .i64 mn');rw[q6C,q6E]at N7;have R7:=((H4.out.2.2.1.over b6).other (c:=gn) (o:=94) (by omega) (.int .i64 ml')).other (c:=gn) (o:=95) (by omega) (.int .i64 mn')
  have B7:=((zbt H4.out.2.2.2.1 b6).setCell (p:=⟨gn,94,none⟩) (by show _<=gn;omega) (.int .i64 ml')).setCell (p:=⟨gn,95,none⟩) (by show _<=gn;omega) (.int .i64 mn')
  have F:=((H4.out.2.2.2.2.over b6).keep (w':=w6.setCell ⟨gn,94,none⟩ (.int .i64 ml')) fun b d _=>Below.heap_setCell _ _ _ _ d.2).keep (w':=(w6.setCell ⟨gn,94,none⟩ (.int .i64 ml')).setCell ⟨gn,95,none⟩ (.int .i64 mn')) fun b d _=>Below.heap_setCell _ _ _ _ d.2;have c8:PIn (fun b=>w.heap.size+2<=b/\b≠gn) _ (z0Z p now) vc:=⟨F.ws,F.set,F.lk,F.q⟩;clear F;rw[<- c6.out]at N7;have e3:Hid ((z0Z p now).q=p.q):=by rw[Hid,c6.out]
  clear b6 H4 i4 i5 i6 i7 i8 i9 j0 j1 j2 d9 e0 e1 c6;generalize (w6.setCell ⟨gn,94,none⟩ (.int .i64 ml')).setCell ⟨gn,95,none⟩ (.int .i64 mn')=w7 at *;generalize z0Z p now=pt at *;obtain⟨zq,r,c9,e4⟩:=c8.q;obtain⟨Aq,Cq,eq,-⟩:=c9.open (z1h _ _ r) (by decide)
  have j4:w7.cell? ⟨gn,96,none⟩=some (J1 Aq pt.q.length Cq):=by rw[<- eq];exact N7.cell 96
  have e5:=N7.free 96;have x8:=N7.lt;have x9:=R7.lt;have H7:=J6 (show _/\_/\_/\_ from⟨N7,R7,B7,c8⟩);have H:=J6 (show _/\_/\_ from⟨r,c9,e4⟩);have e6:=J6 eq;clear N7 R7 B7 c8 r c9 e4 eq;simp only[Exit.then];apply_assumption
  go_upto_region 8 with fail
  apply z2d (fun w'=>w'=w7.setCell ⟨gn,96,none⟩ (J1 none 0 0))
  ·go_wp2;exact⟨rfl,rfl,rfl⟩
  rintro w8 rfl;simp only[Exit.then];apply_assumption;have N8:=H7.out.1.set 96 (J1 none 0 0);rw[q8O pt vc [] (J1 none 0 0)]at N8;have R8:=H7.out.2.1.other (c:=gn) (o:=96) (by omega) (J1 none 0 0)
  have B8:=H7.out.2.2.1.setCell (p:=⟨gn,96,none⟩) (by show _<=gn;omega) (J1 none 0 0)
  have M:∀ b,(w.heap.size+2<=b/\b≠gn)->b<w7.heap.size->(w7.setCell ⟨gn,96,none⟩ (J1 none 0 0)).heap[b]?=w7.heap[b]?:=fun b d _=>Below.heap_setCell _ _ _ _ d.2;have a3:=H7.out.2.2.2.keep M;have N:=H.out.2.1.keep M;rw[e6.out]at N;have a6:=fun (i:Nat) (x:Int×Pkt) (y:Value×Value) (hx:pt.q[i]?=some x) (hy:zq[i]?=some y)=>And.intro ((H.out.2.2 i x y hx hy).1.keep M) ((H.out.2.2 i x y hx hy).2.keep M);have Q8:z2N (fun b=>w.heap.size+2<=b/\b≠gn) (w7.setCell ⟨gn,96,none⟩ (J1 none 0 0)) { pt with q:=[] } { vc with q:=J1 none 0 0 }:=⟨a3.ws,a3.set,a3.lk,_,_,_,rfl⟩
  have e7:=RQu.start (p:=pt) N8 rfl Q8 j l.out.2.1;have r:=H.out.1;have Q:∀ a∈pt.q,(0<=a.1/\a.1<2)/\q8N a.2:=fun a ha=>l.out.1 a (by rw[<- e3.out];exact ha)
  have e8:pt.q.length * 88<=140737488351232:=by rw[e3.out];exact b9.out
  have a7:=N8.lt;have a4:=J6 (show _/\_ from⟨R8,B8⟩);have y3:w.heap.size+2<=(w7.setCell ⟨gn,96,none⟩ (J1 none 0 0)).heap.size:=by omega
  clear N8 R8 B8 a3 Q8 H7 H e6 j4 e5 M;generalize w7.setCell ⟨gn,96,none⟩ (J1 none 0 0)=w8 at *;refine wp_seq_k (fun K hK=>?_);refine z8o pt (fun b=>w.heap.size+2<=b/\b≠gn) w8 gn pt.q zq Aq Cq a7 j e7 r N a6 Q e8 _ _ _ _ _ _ _ _ _ _ _ _ _ _ _ _ _ _ _ _ _ _ _ _ _ _ _ _ _ _ _ _ _ _ _ _ _ _ _ _ _ _ _ _ _ _ _ _ _ _ _ _ _ _ _ _ _ _ _ _ _ _ _ _ _ _ _ _ _ _ _ _ _ _ _ _ _ _ _ _ _ _ _ _ _ _ _ _ _ _ _ _ _ _ _ _ _ _ _ _ _ _ _ _ _ _ _ _ _ _ _ _ _ _ _ _ _ _ _ _ _ _ _ _ _ _ _ _ _ _ _ _ _ _ _ _ _ _ _ _ _ _ _ _ _ _ _ _ _ _ _ _ _ _ _ _ _ _ _ _ _ _ _ _ _ _ _ _ _ _ _ _ _ _ _ _ _ _ _ _ _ _ _ _ _ _ _ ?_;clear e7 r N a6;intro t9 y4 y5 y6 y7 y8 y9 z0 z1 z2 z3 z4 z5 z6 z7 z8 z9 A0 A3 A4 A5 A6 A7 A8 B3 B5 B6 C3 C5 C6 C7 C8 D0 D1 D2 D3 D4 D5 D6 D7 D8 D9 E0 E1 E2 w9 d0;rw[q2J pt (fun a ha=>(Q a ha).1)]at d0;have j5:=d0.told j a7 (by have:=b7.out;have:=b9.out;omega)
  clear d0 Q e8 b7;obtain⟨e9,a8,R⟩:=l.out.2.2;clear l;have j6:=(q0a e9 now).good;have d1:Hid (z3X (z0H pt) now={ z0H pt with s:=z3e (z0H pt).s now,set:=z4Y (z3e (z0H pt).s now).V }):=rfl
  generalize z3X (z0H pt) now=q0 at *;generalize z0H pt=p2 at *;obtain⟨⟨v9,Q9,C9,f4,f5,-⟩,A9⟩:=j5;have E3:=A9.size
  have P9:PIn (fun b=>w.heap.size+2<=b/\b≠gn) w9 p2 v9:=f4.mono fun b _ d=>by
   rcases f5 b d with⟨h,_⟩ | h
   ·exact h
   ·exact⟨by omega,by omega⟩
  have R9:=A9.cat (b:=w.heap.size+1) (by omega) a4.out.1
  have B9:=a4.out.2.trans (A9.below (by omega) a4.out.2.size)
  have m9:=z1f C9;have f6:=J6 (q7F P9.ws now e9);have E4:=C9.lt;have H9:=J6 (show _/\_/\_/\_ from⟨C9,R9,B9,P9⟩);clear C9 R9 B9 P9 f4 A9 f5 a4;have f7:=J6 (fun (u:Value) (wx:World)=>q7Q j6 u wx);generalize z3e p2.s now=s3 at *;generalize z4Y s3.V=st3 at *;simp only[Exit.then];apply hK;clear hK K
  go_upto_region 26 with (go_at_call 49;refine f6.out.mono ?_;rintro e wa⟨z,xa,rfl,Ua,Xa,m⟩;clear m9;have a9:=z3h s3 Ua.one';have j7:=z1x (H9.out.1.over m) (z0c _ _) (z0d s3 z) a9)
  have d2:=(H9.out.1.over m).z0I s3 z;have f8:=(H9.out.2.1.over m).others (c:=gn) (o:=2) (by omega) (stC s3 z).toList
  have f9:=z0b (b:=gn) (B:=w.heap.size) (by omega) (stC s3 z).toList 2 _ (zbt H9.out.2.2.1 m)
  have S:Alt gn wa (wa.setCells gn 2 (stC s3 z).toList):=Alt.sets (stC s3 z).toList (Alt.refl gn wa) 2
  have g0:PIn (fun b=>w.heap.size+2<=b/\b≠gn) (wa.setCells gn 2 (stC s3 z).toList) { p2 with s:=s3 } { v9 with ws:=z }:=by
   have p1:=S.pin j (H9.out.2.2.2.over m);have hU:Rep (fun b=>w.heap.size+2<=b/\b≠gn) wa z 8 64 (wsL s3.W):=Ua.mono fun b _ d=>by have g1:w9.heap.size<=b:=d;exact⟨by omega,by omega⟩
   exact⟨S.rep j hU,p1.set,p1.lk,p1.q⟩
  have g2:Rep (fun b=>w.heap.size+2<=b/\b≠gn) (wa.setCells gn 2 (stC s3 z).toList) xa 1 8 (inC (z0D now p2.s.W)):=S.rep j (Xa.mono fun b _ d=>by have g1:w9.heap.size<=b:=d;exact⟨by omega,by omega⟩)
  have hsa:=m.size;have k5:=S.size;clear S Ua Xa m j7 H9 f6 a9;generalize wa.setCells gn 2 (stC s3 z).toList=w10 at *;have j8:=z1f d2;have k:=J6 (show _/\_/\_/\_/\_ from⟨d2,f8,f9,g0,g2⟩);clear d2 f8 f9 g0 g2;apply z5b (fun sb w'=>∃ n,w'=n.setCell ⟨gn,65,none⟩ sb/\Bl w10 n/\Rep (fun b=>w10.heap.size<=b) n sb 2 16 (pwC st3))
  ·go_upto_region 27 with (go_at_call 50;refine (f7.out _ _).mono ?_;rintro e n⟨sb,rfl,Sb,f⟩;have j9:n.cell? ⟨gn,65,none⟩=some v9.set:=(k.out.1.over f).cell 65;have g3:=(k.out.1.over f).free 65;have yz:=(k.out.1.over f).lt;have E5:=z7J Sb.one' j9 g3)
   exact⟨sb,rfl,rfl,n,rfl,f,Sb⟩
  rintro sb w'⟨n,rfl,f,Sb⟩;have E6:=f.size;have d3:=(k.out.1.over f).set 65 sb;rw[q4l]at d3;have T:Alt gn n (n.setCell ⟨gn,65,none⟩ sb):=(Alt.refl gn n).set 65 sb;have d4:=(k.out.2.1.over f).other (c:=gn) (o:=65) (by omega) sb
  have g5:=(zbt k.out.2.2.1 f).setCell (p:=⟨gn,65,none⟩) (by show _<=gn;omega) sb
  have g6:PIn (fun b=>w.heap.size+2<=b/\b≠gn) (n.setCell ⟨gn,65,none⟩ sb) q0 { v9 with ws:=z,set:=sb }:=by
   have p1:=T.pin j (k.out.2.2.2.1.over f);have hS:Rep (fun b=>w.heap.size+2<=b/\b≠gn) n sb 2 16 (pwC st3):=Sb.mono fun b _ d=>by have g1:w10.heap.size<=b:=d;exact⟨by omega,by omega⟩
   rw[d1.out];exact⟨p1.ws,T.rep j hS,p1.lk,p1.q⟩
  have g8:=T.rep j (k.out.2.2.2.2.over f);have U:CAt 47 (n.setCell ⟨gn,65,none⟩ sb) gn (prC q0 { v9 with ws:=z,set:=sb }):=by rw[d1.out];exact d3
  have k6:=T.size;clear d3 T f Sb k f7 j8;generalize n.setCell ⟨gn,65,none⟩ sb=w12 at *;have g9:=U.lt;have hT:TQu (fun b=>w.heap.size+2<=b/\b≠gn) w12 gn q0 w12:=⟨⟨_,_,U,g6,fun b d=>by by_cases hl:b<w12.heap.size;exact .inl ⟨d,hl⟩;exact .inr (by omega),j⟩,Alt.refl _ _⟩
  have X:=J6 (show _/\_/\_ from⟨d4,g5,g8⟩);have k7:=d4.lt;clear U g6 d4 g5 g8 d1;simp only[Exit.then];apply_assumption;refine wp_seq_k (fun K hK=>?_);refine z9b q0 (fun b=>w.heap.size+2<=b/\b≠gn) w12 gn now d8.out (by omega) i0 g9 hT a8 R _ _ _ _ _ _ _ _ _ _ _ _ _ _ _ _ _ _ _ _ _ _ _ _ _ _ _ _ _ _ _ _ _ _ _ _ _ _ _ _ _ _ _ _ _ _ _ _ _ _ _ _ _ _ _ _ _ _ _ _ _ _ _ _ _ _ _ _ _ _ _ _ _ _ _ _ _ _ _ _ _ _ _ _ _ _ _ _ _ _ _ _ _ _ _ _ _ _ _ _ _ _ _ _ _ _ _ _ _ _ _ _ _ _ _ _ _ _ _ _ _ _ _ _ _ _ _ _ _ _ _ _ _ _ _ _ _ _ _ _ _ _ _ _ _ _ _ _ _ _ _ _ _ _ _ _ _ _ _ _ _ _ _ _ _ _ _ _ _ _ _ _ _ _ _ _ _ _ _ _ _ _ _ _ _ _ _ ?_
  clear hT a8 R;intro E7 E8 E9 F0 F3 F4 k8 k9 l4 l5 l6 l7 l8 l9 m0 m1 m2 m3 m4 m5 m6 m7 m8 n2 n3 n4 n5 n6 n7 n8 n9 o0 o1 o2 o3 o4 o5 o6 o7 o8 o9 p7 p8 p9 q4 q5 q6 q7 q8 q9 r0 r3 r4 r5 r6 r7 r8 r9 s0 s2 s4 s5 s6 s7 s8 s9 t0 t1 t2 t3 t4 t5 t6 t7 t8 u0 u3 u4 u5 u6 u7 u8 u9 v4 v5 v6 F5 h4;obtain⟨⟨h5,F6,h6,d5,b4,-⟩,Y⟩:=h4;have v7:=Y.size;have d6:=Y.cat (b:=w.heap.size+1) (by omega) X.out.1
  have h7:=X.out.2.1.trans (Y.below (by omega) X.out.2.1.size)
  have h8:=Y.rep j X.out.2.2;have F7:=z0t h6 (z0c _ _);have F9:=z0z d6 z0h (z0c (tells q0 2) h5) (z2y d5)
  have HZ:=J6 (show _/\_/\_/\_ from⟨d6,h7,d5.mono (P':=New P w 2) (fun b _ d=>by
   rcases b4 b d with⟨h,_⟩ | h
   ·exact .inr h.1
   ·exact .inr (by omega)),h8.mono (P':=New P w 2) (fun _ _ h=>.inr h.1)⟩)
  clear h6 d5 Y d6 h7 h8 b4 X;generalize tells q0 2=q2 at *;simp only[Exit.then];apply hK;clear hK K;go_wp2;exact z4l results17 HZ.out.1 z0h HZ.out.2.1 q2 h5 xa _ 0 D HD.out HZ.out.2.2.1 HZ.out.2.2.2 _ rfl rfl rfl rfl
 ·replace HD:=J6 (HD.out.trans (if_neg fun h=>a0 ⟨h.1,h.2.2,by have:=h.2.1;simp[isT]at this;omega⟩))
  have k0:G=false∨(G=true/\now<p.t)∨(G=true/\p.t<=now/\1099511627776<now):=by
   cases G
   ·exact .inl rfl
   ·by_cases h:now<p.t
    ·exact .inr (.inl ⟨rfl,h⟩)
    ·exact .inr (.inr ⟨rfl,by omega,by have:=a0;simp only[true_and]at this;omega⟩)
  clear a0 b5 l b7 d8 b9 d7
  rcases k0 with rfl | ⟨rfl,h1⟩ | ⟨rfl,h1,h2⟩
  all_goals
   go_upto_region 2 with (go_at_call 45;refine (Z.out _ A.out.2.2).mono ?_;rintro e w1⟨rfl,g⟩;clear l0;have a1:w1.cell? ⟨w.heap.size,1,none⟩=some (.int .i64 p.t):=(A.out.1.over g).cell 1)
   have R1:=A.out.2.1.over g;have l1:=z0t (A.out.1.over g) (z0c _ _);have s1:=z0z R1 z0h (z0c p v) a5;have B1:=zbt A.out.2.2 g;have HZ:=J6 (show _/\_ from⟨R1,B1⟩);clear R1 B1 g a5 A Z a1;go_wp2;exact z4l results17 HZ.out.1 z0h HZ.out.2 p v (J1 none 0 0) [] 2 D HD.out (HN.out _ HZ.out.2) (Rep.nil _ _ _ _) _ rfl rfl rfl rfl
end Pv
namespace Pv
open Go.RowKit
attribute [local go_sem ↓] z0O z1c z0J z0L
theorem z9o(p:Pr)(v:PrV)(w:World)(now:Int)(S:PIn (fun _=>True) w p v)(c:p.q.length * 88<=140737488351232) :
  Calls prog 5 #[J4 (prC p v),J I now] w fun e w'=>e=.returned (J3 true)/\Bl w w':=by
 have t:=J6 (fun (wx:World) (d:Bl w wx)=>z8a p v (fun _=>True) wx (S.over d) c);have i:=J6 (fun (P:Nat->Prop) (wx:World) (u:PrV) (hu:PIn P wx p u)=>q5Y p u P wx now hu (by omega))
 have j:=J6 (fun (wx:World) (d:Bl w wx)=>q2y p v (fun _=>True) wx now (S.over d) c);have HP:=J6 S;generalize endP p now=r at *;obtain⟨r1,l,er⟩:=r;have y:Hid (∀ (P:Nat->Prop) (wx:World) (u:PrV),PIn P wx p u->Calls prog 9 #[J4 (prC p u),J I now] wx fun e w'=>∃ z x,e=.returned (.tuple #[J4 (prC r1 z),x,J I er])/\PIn (New P wx 2) w' r1 z/\Rep (New P wx 2) w' x 1 8 (inC l)/\Bl wx w'):=fun P wx u hu=>i.out P wx u hu;have A:Hid (∀ wx:World,Bl w wx->Calls prog 17 #[J4 (prC p v),J I now] wx fun e w'=>∃ z x,e=.returned (.tuple #[J4 (prC r1 z),x,J I er])/\PIn (New (fun _=>True) wx 2) w' r1 z/\Rep (New (fun _=>True) wx 2) w' x 1 8 (inC l)/\Bl wx w'):=fun wx d=>j.out wx d;clear S c i j
 go_enter func5,ntmps5
 go_upto_region 1 with fail
 have V:CAt 47 (w.alloc (J5 (prC p v) 47)) w.heap.size (prC p v):=CAt.new _ w _;have B0:Bl w (w.alloc (J5 (prC p v) 47)):=znw w _;generalize w.alloc (J5 (prC p v) 47)=w0 at *;have l0:=z0t V (z0c _ _);have T:=J6 (show _/\_ from⟨V,B0⟩);clear V B0
 go_upto_region 2 with (go_at_call 16;refine (t.out _ T.out.2).mono ?_;rintro e w1⟨v1,rfl,W,B⟩;clear l0;have s1:=z0z (CAt.new 47 w1 zeroCells47) z0h (z0c p v1) (z2y W.pin))
 have a:Bl w1 ((w1.alloc (J5 zeroCells47 47)).setCells w1.heap.size 0 (prC p v1).toList):=z0b (Nat.le_refl _) _ _ _ (znw w1 _);have U:CAt 47 ((w1.alloc (J5 zeroCells47 47)).setCells w1.heap.size 0 (prC p v1).toList) w1.heap.size (prC p v1):=(CAt.new 47 w1 zeroCells47).z0C (by rw[z0h];rfl)
 have b2:=zbt B a;have C2:=T.out.1.over b2;have B2:=zbt T.out.2 b2;have Q2:=W.pin.over a;clear s1 a B b2 W T t;generalize (w1.alloc (J5 zeroCells47 47)).setCells w1.heap.size 0 (prC p v1).toList=w2 at *;generalize w1.heap.size=g5 at *;have l2:=z0t U (z0c _ _);have h2:=U.lt;have o:=J6 (show _/\_/\_/\_ from⟨C2,U,B2,Q2⟩);clear C2 U B2 Q2
 go_upto_region 3 with (go_at_call 9;refine (y.out _ _ _ o.out.2.2.2).mono ?_;rintro e b⟨v3,x3,rfl,X,X3,C⟩;clear l2;have s3:=z0z (CAt.new 47 b zeroCells47) z0h (z0c r1 v3) (z2y X))
 have a:Bl b ((b.alloc (J5 zeroCells47 47)).setCells b.heap.size 0 (prC r1 v3).toList):=z0b (Nat.le_refl _) _ _ _ (znw b _);have Y:CAt 47 ((b.alloc (J5 zeroCells47 47)).setCells b.heap.size 0 (prC r1 v3).toList) b.heap.size (prC r1 v3):=(CAt.new 47 b zeroCells47).z0C (by rw[z0h];rfl)
 have D:=zbt C a;have Z:=o.out.1.over D;have D4:=o.out.2.1.over D;have B4:=zbt o.out.2.2.1 D;have Q4:=o.out.2.2.2.over D;have P4:=X.over a;have X4:=X3.over a;clear s3 a C D X X3 o y;generalize (b.alloc (J5 zeroCells47 47)).setCells b.heap.size 0 (prC r1 v3).toList=w4 at *;generalize b.heap.size=g6 at *;have l4:=z0t Z (z0c _ _);have h4:=Y.lt;have f:=J6 (show _/\_/\_/\_/\_/\_/\_ from⟨Z,D4,Y,B4,Q4,P4,X4⟩);clear Z D4 Y B4 Q4 P4 X4
 go_upto_region 4 with (go_at_call 17;refine (A.out _ f.out.2.2.2.1).mono ?_;rintro e w5⟨s,x5,rfl,P5,X5,n⟩;clear l4;have s5:=z0z (CAt.new 47 w5 zeroCells47) z0h (z0c r1 s) (z2y P5))
 have a:Bl w5 ((w5.alloc (J5 zeroCells47 47)).setCells w5.heap.size 0 (prC r1 s).toList):=z0b (Nat.le_refl _) _ _ _ (znw w5 _);have F6:CAt 47 ((w5.alloc (J5 zeroCells47 47)).setCells w5.heap.size 0 (prC r1 s).toList) w5.heap.size (prC r1 s):=(CAt.new 47 w5 zeroCells47).z0C (by rw[z0h];rfl)
 have k:=zbt n a;have B6:=zbt f.out.2.2.2.1 k;have m:=J6 (show _/\_/\_/\_ from⟨f.out.1.over k,f.out.2.1.over k,f.out.2.2.1.over k,F6⟩);have E:=J6 (f.out.2.2.2.2.1.over k);have F:=J6 (f.out.2.2.2.2.2.1.over k);have G:=J6 (f.out.2.2.2.2.2.2.over k);have H:=J6 (P5.over a);have K:=J6 (X5.over a);have L:=J6 (HP.out.over B6);have a0:=J6 B6;have h5:=n.size;clear s5 a n k P5 X5 f A F6 B6 HP;generalize (w5.alloc (J5 zeroCells47 47)).setCells w5.heap.size 0 (prC r1 s).toList=w6 at *;generalize w5.heap.size=g9 at *;have a5:=m.out.2.1.lt;have a6:=m.out.2.2.1.lt;have a7:=m.out.2.2.2.lt;have a8:=m.out.1.lt;have a1:=J6 (z6o l x3 x5 G.out K.out);have M:=J6 (fun (wx:World) (d:Bl w6 wx)=>z8u r1 v3 s _ _ wx (F.out.over d) (H.out.over d));have a2:=J6 (fun (wx:World) (d:Bl w6 wx)=>z8u p v1 v _ _ wx (E.out.over d) (L.out.over d));clear G K F H E L
 go_wp2_with (first
  | (go_at_call 18;refine a1.out.mono ?_;rintro e w7⟨rfl,N⟩;have g:=J6 N;clear N;have la:=z0t (m.out.2.2.1.over g.out) (z0c _ _);have lb:=z0t (m.out.2.2.2.over g.out) (z0c _ _))
  | (go_at_call 19;refine (M.out _ g.out).mono ?_;rintro e w8⟨rfl,hb8⟩;have h:=J6 (zbt g.out hb8);clear hb8 la lb M;have lc:=z0t (m.out.2.1.over h.out) (z0c _ _);have ld:=z0t (m.out.1.over h.out) (z0c _ _))
  | (go_at_call 19;refine (a2.out _ h.out).mono ?_;rintro e w9⟨rfl,Q⟩;have a3:=J6 (zbt h.out Q);clear Q lc ld)
  | (go_at_call 20;refine (z7b _).mono ?_;rintro e wz⟨rfl,R⟩;have a4:=J6 (zbt a3.out R);clear R))
 go_ret;exact⟨rfl,zbt a0.out a4.out⟩
end Pv
end Go.Proofs.YtjghbciepinofaaGreat
