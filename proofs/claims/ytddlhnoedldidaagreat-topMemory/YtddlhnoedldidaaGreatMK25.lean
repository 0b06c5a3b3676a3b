/- Parts of the proof. -/
import Derived.Test.YtddlhnoedldidaaGreatML
import Derived.Test.YtddlhnoedldidaaGreatMK13
set_option maxRecDepth 100000
set_option maxHeartbeats 16000000
namespace Go.Proofs.YtddlhnoedldidaaGreat
open Go.Proofs.Tryz
open Value renaming int->J,slice->J1,pointer->J2,bool->J3,agg->J4
open IntKind renaming i64->I
open Obj renaming cells->J5
namespace Wd
open Go.RowKit Pv Kc
theorem j2p(l:List ByteArray):∀ u∈txC l,u.oneCell'=true:=fun u hu=>by
 obtain⟨x,_,rfl⟩:=List.mem_map.1 hu;rfl
theorem z8v(l:List Int):∀ u∈inC l,u.oneCell'=true:=fun u hu=>by
 obtain⟨x,_,rfl⟩:=List.mem_map.1 hu;rfl
attribute [local go_sem ↓] z1Z z1y
theorem z8V(l:Ln.Line)(v1 v2:Value)(P:Nat->Prop)(w:World)(h1:z0C P w v1 1 16 (txC l.S))(h2:z0C P w v2 1 8 (inC l.D)) :
  Calls prog 41 #[J4 #[v1,v2,J I l.g,J3 l.cl]] w fun e w'=>∃ u1 u2,e=.returned (J4 #[u1,u2,J I l.g,J3 l.cl])/\z0C (fun b=>w.heap.size+2<=b) w' u1 1 16 (txC l.S)/\z0C (fun b=>w.heap.size+2<=b) w' u2 1 8 (inC l.D)/\Bl w w':=by
 obtain⟨q,r,rfl,R1,j⟩:=z3b h1 (z0V l.S) (by decide)
 obtain⟨s,t,rfl,x,y⟩:=z3b h2 (z0h l.D) (by decide)
 have HT:=J6 (fun (z:World) (hb:Bl w z)=>q5m q l.S.length r (txC l.S) z (by obtain⟨B,D,e,R,-⟩:=z3b (h1.over hb) (z0V l.S) (by decide);cases e;exact R) (j2p _) j)
 have HI:=J6 (fun (z:World) (hb:Bl w z)=>z6j s l.D.length t (inC l.D) z (by obtain⟨B,D,e,R,-⟩:=z3b (h2.over hb) (z0h l.D) (by decide);cases e;exact R) (z8v _) y)
 clear h1 h2 R1 x j y;generalize l.g=lg at *;generalize l.cl=lc at *;have L:=(CAt.new 48 w #[J1 q l.S.length r,J1 s l.D.length t,J I lg,J3 lc]).alloc (J5 Z4' 48);have R0:=CAt.new2 48 w (J5 #[J1 q l.S.length r,J1 s l.D.length t,J I lg,J3 lc] 48) Z4';have b0:Bl w ((w.alloc (J5 #[J1 q l.S.length r,J1 s l.D.length t,J I lg,J3 lc] 48)).alloc (J5 Z4' 48)):=(znw w _).alloc (by simp) _
 go_enter func41,ntmps41
 go_upto_region 1 with fail
 change Code.wp prog _ _ _ ((w.alloc (J5 #[J1 q l.S.length r,J1 s l.D.length t,J I lg,J3 lc] 48)).alloc (J5 Z4' 48));generalize (w.alloc (J5 #[J1 q l.S.length r,J1 s l.D.length t,J I lg,J3 lc] 48)).alloc (J5 Z4' 48)=w0 at *;have a0:w0.cell? ⟨w.heap.size,0,none⟩=some (J1 q l.S.length r):=L.cell 0;have k:=J6 (show _/\_/\_ from⟨L,R0,b0⟩);have M:=R0.lt;clear L R0 b0
 go_upto_region 2 with (go_at_call 66;refine (HT.out _ k.out.2.2).mono ?_;rintro e w1⟨f,i,rfl,W,j⟩;have A:=k.out.1.over j;have f1:=A.free 0;have y1:w1.cell? ⟨w.heap.size,0,none⟩=some (J1 q l.S.length r):=A.cell 0;have a1:=A.lt;have n:=J6 (show _/\_ from⟨W,j⟩);clear a0 W j)
 have N:=A.set 0 (J1 f l.S.length i);have x:=((k.out.2.1.over n.out.2).other (c:=w.heap.size) (o:=0) (by omega) (J1 f l.S.length i))
 have C:=zbt k.out.2.2 n.out.2;have b2:=C.setCell (p:=⟨w.heap.size,0,none⟩) (Nat.le_refl _) (J1 f l.S.length i);have Q:=n.out.1.sets (g:=w.heap.size) (fun h=>by omega) 0 [J1 f l.S.length i]
 change Rep _ (w1.setCell ⟨w.heap.size,0,none⟩ (J1 f l.S.length i)) _ _ _ _ at Q;clear y1 f1 A k;generalize w1.setCell ⟨w.heap.size,0,none⟩ (J1 f l.S.length i)=w2 at *;have a2:w2.cell? ⟨w.heap.size,1,none⟩=some (J1 s l.D.length t):=N.cell 1;have k:=J6 (show _/\_/\_/\_ from⟨N,x,b2,Q⟩);have T:=x.lt;have a3:w.heap.size+2<=w0.heap.size:=M;clear N x b2 Q C n
 go_upto_region 3 with (go_at_call 40;refine (HI.out _ k.out.2.2.1).mono ?_;rintro e G⟨a,d,rfl,X,u⟩;have E:=k.out.1.over u;have f3:=E.free 1;have y3:G.cell? ⟨w.heap.size,1,none⟩=some (J1 s l.D.length t):=E.cell 1;have a4:=E.lt;have m:=J6 (show _/\_ from⟨X,u⟩);clear a2 X u)
 have Y:=E.set 1 (J1 a l.D.length d);have H:=((k.out.2.1.over m.out.2).other (c:=w.heap.size) (o:=1) (by omega) (J1 a l.D.length d))
 have Z:=(zbt k.out.2.2.1 m.out.2).setCell (p:=⟨w.heap.size,1,none⟩) (Nat.le_refl _) (J1 a l.D.length d);have U:=m.out.1.sets (g:=w.heap.size) (fun h=>by omega) 1 [J1 a l.D.length d]
 have V:=((k.out.2.2.2.over m.out.2).sets (g:=w.heap.size) (fun h=>by omega) 1 [J1 a l.D.length d])
 change Rep _ (G.setCell ⟨w.heap.size,1,none⟩ (J1 a l.D.length d)) _ _ _ _ at U;change Rep _ (G.setCell ⟨w.heap.size,1,none⟩ (J1 a l.D.length d)) _ _ _ _ at V;clear y3 f3 E;generalize G.setCell ⟨w.heap.size,1,none⟩ (J1 a l.D.length d)=w4 at *;have a5:=H.lt;have s0:w.heap.size+2<=w2.heap.size:=T;have F:CAt 48 w4 w.heap.size #[J1 f l.S.length i,J1 a l.D.length d,J I lg,J3 lc]:=Y;have l4:=z5n F.range rfl;have s4:=z8b (w:=w4) (g:=w.heap.size+1) (o:=0) (cs:=[J1 f l.S.length i,J1 a l.D.length d,J I lg,J3 lc]) (H.there 0 _ (Nat.le_refl _)) rfl (by simp[Value.oneCell'])
 have R5:CAt 48 (w4.setCells (w.heap.size+1) 0 [J1 f l.S.length i,J1 a l.D.length d,J I lg,J3 lc]) (w.heap.size+1) #[J1 f l.S.length i,J1 a l.D.length d,J I lg,J3 lc]:=H.z0t (ds:=#[J1 f l.S.length i,J1 a l.D.length d,J I lg,J3 lc]) rfl;have b5:=z0a (b:=w.heap.size+1) (Nat.le_succ _) [J1 f l.S.length i,J1 a l.D.length d,J I lg,J3 lc] 0 _ Z;have U5:=U.sets (g:=w.heap.size+1) (fun h=>by omega) 0 [J1 f l.S.length i,J1 a l.D.length d,J I lg,J3 lc]
 have V5:=V.sets (g:=w.heap.size+1) (fun h=>by omega) 0 [J1 f l.S.length i,J1 a l.D.length d,J I lg,J3 lc]
 have K:=J6 (show _/\_/\_/\_ from⟨R5,b5,(U5.mono (P':=fun b=>w.heap.size+2<=b) fun b _ hb=>by omega).c,(V5.mono (P':=fun b=>w.heap.size+2<=b) fun b _ hb=>by omega).c⟩)
 change (z2i (J2 (some ⟨w.heap.size,0,none⟩))).run prog w4=.ok (J4 #[J1 f l.S.length i,J1 a l.D.length d,J I lg,J3 lc]) w4 at l4;change (z2K (J2 (some ⟨w.heap.size+1,0,none⟩)) (J4 #[J1 f l.S.length i,J1 a l.D.length d,J I lg,J3 lc])).run prog w4=_ at s4;generalize w4.setCells (w.heap.size+1) 0 [J1 f l.S.length i,J1 a l.D.length d,J I lg,J3 lc]=w5 at *;clear Y F H Z U V R5 b5 U5 V5 k m;go_wp2;exact bodyPost_ret (v:=J4 #[J1 f l.S.length i,J1 a l.D.length d,J I lg,J3 lc]) (results_cell_row results41 _ _ (w.heap.size+1) 48 _ (0,0) _ rfl K.out.1 underlying48 rfl (by kernel_rfl)) rfl ⟨_,_,rfl,K.out.2.2.2,K.out.2.2.1,K.out.2.1⟩
theorem z6Y(g o:Nat)(ty:TypeId)(cs:Array Value)(S:List (Int×Int))(c:List Int)(v1 v2:Value)(P:Nat->Prop)(w:World)(m:CAt ty w g cs)(G:cs[o+4]?=some v1)(t:cs[o+5]?=some v2)(h1:Rep P w v1 2 16 (pwC S))(h2:Rep P w v2 1 8 (inC c))(V:¬ P g) :
  Calls prog 43 #[J2 (some ⟨g,o,none⟩)] w fun e w'=>∃ u1 u2,e=.returned (.tuple #[])/\CAt ty w' g ((cs.setIfInBounds (o+4) u1).setIfInBounds (o+5) u2)/\Rep (fun b=>w.heap.size<=b) w' u1 2 16 (pwC S)/\Rep (fun b=>w.heap.size<=b) w' u2 1 8 (inC c)/\Alt g w w':=by
 obtain⟨u,v,rfl,H,a⟩:=row_of h1 (z0c S) (by decide)
 obtain⟨x,y,rfl,W,j⟩:=row_of h2 (z0h c) (by decide)
 have X:=J6 (z4r u S.length v (pwC S) w H (z2X _) a);have Y:=J6 (fun (K:World) (L:Alt g w K)=>z6j x c.length y (inC c) K (by obtain⟨B,D,e,R,-⟩:=row_of (L.rep V h2) (z0h c) (by decide);cases e;exact R) (z8v _) j)
 have z:=m.lt;have M:w.cell? ⟨g,o+4,none⟩=some (J1 u S.length v):=(m.cell _).trans G;have Z:=J6 m;have h5:o+5<cs.size:=(Array.getElem?_eq_some_iff.1 t).1;have H5:=J6 t;clear h1 h2 H W a j m G t
 go_enter func43,ntmps43
 go_upto_region 1 with (go_at_call 39;refine X.out.mono ?_;rintro e w1⟨n,q,rfl,N,a⟩;have r:=Z.out.over a;have f1:=r.free (o+4);have y1:w1.cell? ⟨g,o+4,none⟩=some (J1 u S.length v):=(by have:=a.cell (p:=⟨g,o+4,none⟩) z;rw[this];exact M);have a0:=r.lt;have f:=J6 (show _/\_ from⟨N,a⟩);clear N a)
 have s:=r.set (o+4) (J1 n S.length q);have k:Alt g w (w1.setCell ⟨g,o+4,none⟩ (J1 n S.length q)):=(Alt.of (g:=g) f.out.2).set _ _;have Q:=((Alt.refl g w1).set (o+4) (J1 n S.length q)).rep (P:=fun b=>w.heap.size<=b) (fun h=>by omega) f.out.1
 clear y1 f1 M r;generalize w1.setCell ⟨g,o+4,none⟩ (J1 n S.length q)=w2 at *;have a5:w2.cell? ⟨g,o+5,none⟩=some (J1 x c.length y):=by rw[s.cell,Array.getElem?_setIfInBounds_ne (by omega)];exact H5.out
 have A:=s.lt;have l:=J6 (show _/\_/\_ from⟨s,k,Q⟩);clear s k Q f
 go_wp2_with (go_at_call 40;refine (Y.out _ l.out.2.1).mono ?_;rintro e T⟨C,E,rfl,U,d⟩;have F:=l.out.1.over d;have f3:=F.free (o+5);have y3:T.cell? ⟨g,o+5,none⟩=some (J1 x c.length y):=(by have:=d.cell (p:=⟨g,o+5,none⟩) A;rw[this];exact a5);have a1:=F.lt;have i:=J6 (show _/\_ from⟨U,d⟩);clear U d)
 go_end0;have L:=l.out.2.1.size;refine⟨_,_,rfl,F.set (o+5) (J1 C c.length E),?_,?_,l.out.2.1.trans ((Alt.of (g:=g) i.out.2).set _ _)⟩
 ·exact ((Alt.of (g:=g) i.out.2).set (o+5) (J1 C c.length E)).rep (P:=fun b=>w.heap.size<=b) (fun h=>by omega) l.out.2.2
 ·exact (((Alt.refl g T).set (o+5) (J1 C c.length E)).rep (P:=fun b=>w2.heap.size<=b) (fun h=>by omega) i.out.1).mono fun b _ hb=>by omega
end Wd
namespace Wd
open Go.RowKit Pv Kc
attribute [local go_sem ↓] z1Z z1y z4A
theorem j5C(f:Bool)(g:Nat)(x:Wo)(v:WoV)(P:Nat->Prop)(w:World)(i:Nat)(W:i<2)(hC:CAt 97 w g (wdC x v))(hI:WIn P w x v)(hg:¬ P g)(a0:Ln.z0Z (z2O x i true)=true)(a1:small (z2O x i true).S)(X:x.p.q.length * 88<=140737488351232)(a7:(x.c i).pd.length * 80<=140737488351232) :
  Calls prog 63 #[J2 (some ⟨g,0,none⟩),J I (i:Int),J3 true,J3 f] w (z9z P w g (q4H x i true f)):=by
 have hD:q4H x i true f=if Ln.z4p (x.c i).out ((x.c i).out.g+1) (z1e x i true f) (x.p.L i).h2 x.ck=0 then (if (z2S x i true (z1e x i true f)).2=0 then (z3g (z2S x i true (z1e x i true f)).1 i true (Ln.z7b (x.c i).out ((x.c i).out.g+1) (z1e x i true f) (x.p.L i).h2 x.ck),(x.c i).out.g+1,0) else ((z2S x i true (z1e x i true f)).1,0,(z2S x i true (z1e x i true f)).2)) else (x,0,Ln.z4p (x.c i).out ((x.c i).out.g+1) (z1e x i true f) (x.p.L i).h2 x.ck):=rfl;have a8:Ln.z4p (x.c i).out ((x.c i).out.g+1) (z1e x i true f) (x.p.L i).h2 x.ck=0->(Ln.z7b (x.c i).out ((x.c i).out.g+1) (z1e x i true f) (x.p.L i).h2 x.ck).g=(x.c i).out.g+1:=fun h=>by rw[z9J h]
 change Ln.z0Z (x.c i).out=true at a0;change small (x.c i).out.S at a1;obtain⟨-,d5,-,a9,d6⟩:=(z1J _).1 a0
 have b4:(z3x (x.c i).out).size<=100:=by
  unfold z3x
  split
  ·decide
  ·rename_i hn;refine a1 _ ?_;rw[List.getD_eq_getElem?_getD,List.getElem?_eq_getElem (by omega)]
   exact List.getElem_mem _
 have b5:(z1e x i true f).size<=maxLen:=by
  have hm:(1000:Nat)<=maxLen:=by decide
  have h2:(q1A (z3x (x.c i).out)).size<=100:=z5l (by simp) (by simp)
  have h3:(z1e x i true f).size<=100:=by
   cases f
   ·exact b4
   ·exact h2
  omega
 have d7:=hC.lt;have e8:(i:Int)<2:=by omega
 have e9:(0:Int)<=(i:Int):=by omega
 have f4:IntKind.i64.wrap ((x.c i).out.g+1)=(x.c i).out.g+1:=z7l (by omega) (by omega)
 have a2:z0C P w (v.c i).said 1 16 (txC (x.c i).out.S):=(hI.c i W).said;have b6:z0C P w (v.c i).due 1 8 (inC (x.c i).out.D):=(hI.c i W).due;have C:=J6 (fun (a:World) (hb:Bl w a)=>(q0k x v W (x.c i).out (v.c i).said (v.c i).due).part (hC.over hb));have a3:=J6 (fun (a:World) (hb:Bl w a)=>q0K g (99+i * 22+14) (x.c i).out (v.c i).said P a (a2.over hb) (z8P (C.out a hb)).1 (z8P (C.out a hb)).2 a9);have E:=J6 (fun (a:World)=>q0f (z3x (x.c i).out) a (by omega))
 have b7:=J6 (fun (k a:World) (h4:Bl w k) (hb:Bl k a)=>q7x (x.c i).out ((x.c i).out.g+1) (z1e x i true f) (x.p.L i).h2 x.ck (v.c i).said (v.c i).due (fun b=>P b/\b<k.heap.size) a ((((a2.over h4).mono (P':=fun b=>P b/\b<k.heap.size) fun b Q hp=>⟨hp,Q⟩).over hb)) ((((b6.over h4).mono (P':=fun b=>P b/\b<k.heap.size) fun b Q hp=>⟨hp,Q⟩).over hb)));have b8:=J6 (fun (a:World) (hb:Bl w a)=>(show (z2i (J2 (some ⟨g,99+i * 22+14,none⟩))).run prog a=.ok (J4 #[(v.c i).said,(v.c i).due,J I (x.c i).out.g,J3 (x.c i).out.cl]) a/\a.cell? ⟨g,99+i * 22+14+2,none⟩=some (J I (x.c i).out.g)/\a.cell? ⟨g,68+i * 14+10+2,none⟩=some (J I (x.p.L i).h2)/\a.cell? ⟨g,0,none⟩=some (J I x.ck) from⟨z5n (C.out a hb) rfl,(z8P (C.out a hb)).2,(z9T (hC.over hb) W).2.1,(hC.over hb).cell 0⟩));have b9:=J6 (fun (a:World) (hb:Bl w a)=>q0R g x v P a i W true (z1e x i true f) (hC.over hb) (hI.over hb) hg b5 X a7);have c4:=J6 (q3O g i W w);have HC:=J6 hC;have HI:=J6 hI;clear hC hI a2 b6 C X a7 a0 a1 d5 a9 d6 b4 b5;generalize q4H x i true f=D at *;generalize z2S x i true (z1e x i true f)=rh at *;obtain⟨xh,he⟩:=rh;dsimp only at hD;generalize Ln.z4p (x.c i).out ((x.c i).out.g+1) (z1e x i true f) (x.p.L i).h2 x.ck=de at *;generalize Ln.z7b (x.c i).out ((x.c i).out.g+1) (z1e x i true f) (x.p.L i).h2 x.ck=dl at *
 have c5:Hid (f=false/\z1e x i true f=z3x (x.c i).out∨f=true/\z1e x i true f=q1A (z3x (x.c i).out)):=by
  cases f
  ·exact .inl ⟨rfl,rfl⟩
  ·exact .inr ⟨rfl,rfl⟩
 generalize z1e x i true f=tx at *;generalize z3x (x.c i).out=nx at *;generalize Value.agg #[(v.c i).said,(v.c i).due,J I (x.c i).out.g,J3 (x.c i).out.cl]=V0 at *;generalize (x.c i).out.g=lg at *;generalize (x.p.L i).h2=sd at *;have F:=J6 hD;have c6:=J6 a8;clear hD a8
 go_enter func63,ntmps63
 go_upto_region 2 with (go_at_call 84;refine c4.out.mono ?_;rintro e w1⟨rfl,a4⟩;obtain⟨w2,s2,K2,bS⟩:=z9S w1 (J2 (some ⟨g,99+i * 22+14,none⟩)) (J2 (some ⟨g,99+i * 22+18,none⟩)) (J2 (some ⟨g,68+i * 14+10,none⟩)) (by simp[Value.oneCell']);have r:=J6 (show _/\_ from⟨K2,zbt a4 bS⟩);have d8:=a4.size;clear K2 bS a4)
 clear s2 c4;obtain⟨R,c7⟩:∃ y,y=w1.heap.size:=⟨_,rfl⟩;rw[<- c7]at r d8 ⊢;clear c7;have f5:g≠R:=by omega
 have k0:w2.cell? ⟨R,0,none⟩=some (J2 (some ⟨g,99+i * 22+14,none⟩)):=r.out.1.cell 0;have f6:=r.out.1.lt
 rcases c5.out with⟨rfl,e0⟩ | ⟨rfl,e1⟩
 all_goals clear c5
 all_goals first | (subst e0;clear E) | (rw[<- e1]at E;clear e1)
 all_goals
  go_upto_region 5 with (first | (go_at_call 86;refine (E.out _).mono ?_;rintro e k⟨rfl,z⟩;have H:=J6 (zbt c8.out z);have M:=J6 (c9.out.over z);clear z) | (go_at_call 85;have _m:=E;refine (a3.out _ (by with_reducible exact r.out.2)).mono ?_;rintro e w3⟨rfl,s⟩;have c8:=J6 (zbt r.out.2 s);have c9:=J6 (r.out.1.over s);clear s) | (go_at_call 85;refine (a3.out _ (by with_reducible exact r.out.2)).mono ?_;rintro e k⟨rfl,z⟩;have H:=J6 (zbt r.out.2 z);have M:=J6 (r.out.1.over z);clear z))
  clear k0 r a3
  try clear c8 c9 E _m
  have f7:=H.out.size;have a5:=J6 (fun (a:World) (hb:Bl k a)=>b7.out k a H.out hb);have t:Hid (∀ (a:World),Bl k a->a.cell? ⟨R,0,none⟩=some (J2 (some ⟨g,99+i * 22+14,none⟩))/\a.cell? ⟨R,2,none⟩=some (J2 (some ⟨g,68+i * 14+10,none⟩))/\(z2i (J2 (some ⟨g,99+i * 22+14,none⟩))).run prog a=.ok V0 a/\a.cell? ⟨g,99+i * 22+14+2,none⟩=some (J I lg)/\a.cell? ⟨g,68+i * 14+10+2,none⟩=some (J I sd)/\a.cell? ⟨g,0,none⟩=some (J I x.ck)):=fun a hb=>⟨(M.out.over hb).cell 0,(M.out.over hb).cell 2,b8.out a (zbt H.out hb)⟩;have B:Hid (Bl k (k.alloc (J5 Z4' 48)).drew):=(znw k _).drew;have Y:Hid (CAt 48 (k.alloc (J5 Z4' 48)).drew k.heap.size Z4'):=CAt.new 48 k Z4';unfold Z4' at B;clear b7 b8;apply q0p (fun (gn:Nat) (ts:Array Value) w'=>j5t P k dl gn ts w')
  ·skip;refine wp_region_noPanic ?_;refine wp_region_held_drew (S:=fun a=>Bl k a) (by kernel_rfl) (Below.refl _ _).drew (fun n=>?_)
   refine O.G 0 (J2 (some ⟨R,0,none⟩)) 26 rfl rfl n ?_;refine O.Z 1 (J2 (some ⟨g,99+i * 22+14,none⟩)) 27 rfl rfl n (fun a d=>by obtain⟨k0,k2,l3,l4,l5,l6⟩:=t.out a d;go_simp) ?_
   refine O.G 2 (J2 (some ⟨g,99+i * 22+14,none⟩)) 28 rfl rfl n ?_;refine O.Z 3 V0 29 rfl rfl n (fun a d=>by obtain⟨k0,k2,l3,l4,l5,l6⟩:=t.out a d;go_simp) ?_
   refine O.G 4 (J2 (some ⟨R,0,none⟩)) 30 rfl rfl n ?_;refine O.Z 5 (J2 (some ⟨g,99+i * 22+14,none⟩)) 31 rfl rfl n (fun a d=>by obtain⟨k0,k2,l3,l4,l5,l6⟩:=t.out a d;go_simp) ?_
   refine O.G 6 (J2 (some ⟨g,99+i * 22+14,none⟩)) 32 rfl rfl n ?_;refine O.G 7 (J2 (some ⟨g,99+i * 22+14+2,none⟩)) 33 rfl rfl n ?_;refine O.Z 8 (J I lg) 34 rfl rfl n (fun a d=>by obtain⟨k0,k2,l3,l4,l5,l6⟩:=t.out a d;go_simp) ?_
   refine O.G 9 (J I (lg+1)) 35 rfl rfl n ?_;refine O.G 10 (.string tx) 36 rfl rfl n ?_;refine O.G 11 (J2 (some ⟨R,2,none⟩)) 37 rfl rfl n ?_;refine O.Z 12 (J2 (some ⟨g,68+i * 14+10,none⟩)) 38 rfl rfl n (fun a d=>by obtain⟨k0,k2,l3,l4,l5,l6⟩:=t.out a d;go_simp) ?_
   refine O.G 13 (J2 (some ⟨g,68+i * 14+10,none⟩)) 39 rfl rfl n ?_;refine O.G 14 (J2 (some ⟨g,68+i * 14+10+2,none⟩)) 40 rfl rfl n ?_;refine O.Z 15 (J I sd) 41 rfl rfl n (fun a d=>by obtain⟨k0,k2,l3,l4,l5,l6⟩:=t.out a d;go_simp) ?_
   refine O.G 16 (J2 (some ⟨g,0,none⟩)) 42 rfl rfl n ?_;refine O.G 17 (J2 (some ⟨g,0,none⟩)) 43 rfl rfl n ?_;refine O.G 18 (J2 (some ⟨g,0,none⟩)) 44 rfl rfl n ?_;refine O.Z 19 (J I x.ck) 45 rfl rfl n (fun a d=>by obtain⟨k0,k2,l3,l4,l5,l6⟩:=t.out a d;go_simp) ?_
   refine O.z3j (i:=20) (j:=24) (by kernel_rfl) rfl rfl rfl rfl (fun K N=>?_) (fun K N=>?_)
   ·go_simp
    go_at_call 87
    refine (a5.out _ (by with_reducible exact (Below.refl k.heap.size k).drew)).mono ?_
    rintro e w3⟨u1,u2,rfl,U1,U2,s⟩;skip;have hb:=(Below.refl k.heap.size k).drew.trans (s.mono (Below.refl k.heap.size k).drew.size);obtain⟨ts,A⟩:∃ y:Array Value,y=#[u1,u2,J I dl.g,J3 dl.cl]:=⟨_,rfl⟩;dsimp only;rw[<- A];have T:=J6 A;clear A;refine N _ _ hb ?_;clear N K;refine O.Z 21 (.tuple #[J4 ts,(J I de)]) 25 rfl rfl hb (fun a d=>?_) ?_
    ·go_simp
    refine O.Z 22 (J4 ts) 47 rfl rfl hb (fun a d=>?_) ?_
    ·go_simp
    refine O.Z 23 (J I de) 48 rfl rfl hb (fun a d=>?_) ?_
    ·go_simp
    refine O.z0R (i:=24) (by kernel_rfl) rfl rfl (fun K N=>?_)
    go_simp;refine N _ _ (hb.alloc hb.size _) ?_;clear N K;have q2:ts.all (fun x=>x.oneCell')=true:=by rw[T.out];exact z2V U1 U2 _ _
    have m:=z6I (l:=dl) U1 U2 (by rfl) hb
    rw[<- T.out]at m;change wpAnyH _ _ _ _ _ _ _ _ (w3.alloc (J5 Z4' 48));refine O.z0n (i:=25) (by kernel_rfl) rfl rfl 48 _ _ rfl rfl w3.heap.size 0 ts rfl rfl ((CAt.new 48 w3 Z4').there 0 _ (by rw[T.out];exact Nat.le_of_eq rfl)) (by rw[T.out,z4M];rfl) q2 m.bel ?_
    refine O.Z 26 (J I de) 13 rfl rfl m.bel (fun a d=>?_) ?_
    ·go_simp
    refine wpAnyH_done (by kernel_rfl) ?_ _
    obtain⟨gn,U⟩:∃ y,y=w3.heap.size:=⟨_,rfl⟩;rw[<- U]at m ⊢;simp only[O.pp,O.pb,O.pc];exact NoPanic.normal ⟨gn,ts,rfl,rfl,m⟩
   ·go_simp;refine N _ _ (n.alloc n.size _) ?_;clear N K;refine O.z0R (i:=20) (by kernel_rfl) rfl rfl (fun K N=>?_)
    go_simp
    go_at_call 87
    refine (a5.out _ (by with_reducible exact B.out)).mono ?_
    rintro e w3⟨u1,u2,rfl,U1,U2,s⟩;skip;have hb:=zbt B.out s;obtain⟨ts,A⟩:∃ y:Array Value,y=#[u1,u2,J I dl.g,J3 dl.cl]:=⟨_,rfl⟩;dsimp only;rw[<- A];have T:=J6 A;clear A;refine N _ _ hb ?_;clear N K;refine O.Z 21 (.tuple #[J4 ts,(J I de)]) 25 rfl rfl hb (fun a d=>?_) ?_
    ·go_simp
    refine O.Z 22 (J4 ts) 47 rfl rfl hb (fun a d=>?_) ?_
    ·go_simp
    refine O.Z 23 (J I de) 48 rfl rfl hb (fun a d=>?_) ?_
    ·go_simp
    have q2:ts.all (fun x=>x.oneCell')=true:=by rw[T.out];exact z2V U1 U2 _ _
    have R3:=Y.out.over s;have m:=z6H (l:=dl) U1 U2 (by simp) hb R3
    rw[<- T.out]at m;refine O.z0n (i:=25) (by kernel_rfl) rfl rfl 48 _ _ rfl rfl k.heap.size 0 ts rfl rfl (R3.there 0 _ (by rw[T.out];exact Nat.le_of_eq rfl)) (by rw[T.out,z4M];rfl) q2 m.bel ?_
    refine O.Z 26 (J I de) 13 rfl rfl m.bel (fun a d=>?_) ?_
    ·go_simp
    refine wpAnyH_done (by kernel_rfl) ?_ _
    obtain⟨gn,U⟩:∃ y,y=k.heap.size:=⟨_,rfl⟩;rw[<- U]at m ⊢;simp only[O.pp,O.pb,O.pc];exact NoPanic.normal ⟨gn,ts,rfl,rfl,m⟩
  rintro gn ts w5 S5;have d0:=J6 S5;have f8:=S5.le;have e3:=S5.cat.lt;have u:=J6 (zbt H.out S5.bel);have d9:=J6 (M.out.over S5.bel);clear S5 t a5 B Y M;have U:g≠gn:=by omega
  simp only[Exit.then];apply_assumption
  by_cases hE:de=0
  case neg =>
   replace F:=J6 (F.out.trans (if_neg hE));have f9:(de != 0)=true:=by simpa using hE
   go_wp2;go_ret2;rw[F.out];exact⟨rfl,.same (HC.out.over u.out) HI.out hg (Alt.of u.out)⟩
  subst hE;replace F:=J6 (F.out.trans (if_pos rfl));have e2:=c6.out rfl;obtain⟨u1,u2,d1,d2,d3⟩:=d0.out.ex;have HU:=J6 (show _/\_/\_ from⟨d1,d2,d3⟩);clear d1 d2 d3 c6
  by_cases hH:he=0
  case neg =>
   replace F:=J6 (F.out.trans (if_neg hH));have g0:(he != 0)=true:=by simpa using hH
   go_wp2_with (go_at_call 88;refine (b9.out _ u.out).mono ?_;rintro e w6⟨rfl,Z6⟩;have V:=J6 Z6;clear Z6;dsimp only)
   go_ret2;rw[F.out];obtain⟨v6,C6,I6,A6⟩:=V.out
   exact⟨rfl,v6,C6,I6.mono fun b _ hb=>by
    rcases hb with⟨hb,Q⟩ | hb
    ·by_cases hw:b<w.heap.size
     ·exact .inl ⟨hb,hw⟩
     ·exact .inr (by omega)
    ·exact .inr (by have:=u.out.size;omega),(Alt.of (g:=g) u.out).trans A6⟩
  subst hH;replace F:=J6 (F.out.trans (if_pos rfl))
  go_upto_region 11 with (go_at_call 88;refine (b9.out _ u.out).mono ?_;rintro e w6⟨rfl,Z6⟩;have V:=J6 Z6;clear Z6;dsimp only)
  obtain⟨v6,C6,I6,A6⟩:=V.out
  have d4:WIn (New P w 0) w6 xh v6:=I6.mono fun b _ hb=>by
   rcases hb with⟨hb,Q⟩ | hb
   ·by_cases hw:b<w.heap.size
    ·exact .inl ⟨hb,hw⟩
    ·exact .inr (by omega)
   ·exact .inr (by have:=u.out.size;omega)
  have a6:¬ New P w 0 g:=Pv.z0I hg d7
  have key:∀ b,b<w5.heap.size->(New P k 0 b/\b≠gn)->New P w 0 b:=fun b _ hb=>by
   rcases hb.1 with⟨hb,Q⟩ | hb
   ·by_cases hw:b<w.heap.size
    ·exact .inl ⟨hb,hw⟩
    ·exact .inr (by omega)
   ·exact .inr (by omega)
  have K6:=A6.cat (b:=R) (by omega) d9.out
  have L6:=A6.cat (b:=gn) (by omega) d0.out.cat
  have y0:w6.cell? ⟨R,0,none⟩=some (J2 (some ⟨g,99+i * 22+14,none⟩)):=K6.cell 0;have R1:z0C (New P w 0) w6 u1 1 16 (txC dl.S):=(HU.out.2.1.mono key).keep fun b hb Q=>A6.block b Q fun e=>a6 (e ▸ hb);have R2:z0C (New P w 0) w6 u2 1 8 (inC dl.D):=(HU.out.2.2.mono key).keep fun b hb Q=>A6.block b Q fun e=>a6 (e ▸ hb)
  have l6:(z2i (J2 (some ⟨gn,0,none⟩))).run prog w6=.ok (J4 ts) w6:=by
   have h:=z5n L6.range (by rw[HU.out.1];rfl)
   simpa using h
  have s6:=z8b ((q0k xh v6 W dl u1 u2).there C6) rfl (by have h:=z2V R1 R2 dl.g dl.cl;simpa [lnL] using h)
  have Z7:=q8c d4 a6 C6 W R1 R2;change (z2K (J2 (some ⟨g,99+i * 22+14,none⟩)) (J4 #[u1,u2,J I dl.g,J3 dl.cl])).run prog w6=_ at s6;rw[<- HU.out.1]at s6;have L7:=L6.others (c:=g) (o:=99+i * 22+14) (by omega) (lnL dl u1 u2)
  have HX:=J6 (z1b.trans ((Alt.of (g:=g) u.out).trans A6) Z7);rw[HU.out.1]at L7;generalize w6.setCells g (99+i * 22+14) (lnL dl u1 u2)=w7 at *;have y7:w7.cell? ⟨gn,2,none⟩=some (J I (lg+1)):=by rw[<- e2];exact L7.cell 2
  have e4:=C6.lt;have e5:=K6.lt;have e6:=L6.lt;have e7:=L7.lt;clear C6 I6 d4 A6 K6 L6 R1 R2 Z7 L7 V key;go_wp2;go_ret2;rw[F.out];exact⟨rfl,HX.out⟩
end Wd
namespace Wd
open Go.RowKit Pv Kc
attribute [local go_sem ↓] z1Z z1y z4A
theorem j5A(f:Bool)(g:Nat)(x:Wo)(v:WoV)(P:Nat->Prop)(w:World)(i:Nat)(W:i<2)(hC:CAt 97 w g (wdC x v))(hI:WIn P w x v)(hg:¬ P g)(a0:Ln.z0Z (z2O x i false)=true)(a1:small (z2O x i false).S)(X:x.p.q.length * 88<=140737488351232)(a7:(x.c i).pd.length * 80<=140737488351232) :
  Calls prog 63 #[J2 (some ⟨g,0,none⟩),J I (i:Int),J3 false,J3 f] w (z9z P w g (q4H x i false f)):=by
 have hD:q4H x i false f=if Ln.z4p (x.p.L i).out ((x.p.L i).out.g+1) (z1e x i false f) (x.c i).h2 x.ck=0 then (if (z2S x i false (z1e x i false f)).2=0 then (z3g (z2S x i false (z1e x i false f)).1 i false (Ln.z7b (x.p.L i).out ((x.p.L i).out.g+1) (z1e x i false f) (x.c i).h2 x.ck),(x.p.L i).out.g+1,0) else ((z2S x i false (z1e x i false f)).1,0,(z2S x i false (z1e x i false f)).2)) else (x,0,Ln.z4p (x.p.L i).out ((x.p.L i).out.g+1) (z1e x i false f) (x.c i).h2 x.ck):=rfl;have a8:Ln.z4p (x.p.L i).out ((x.p.L i).out.g+1) (z1e x i false f) (x.c i).h2 x.ck=0->(Ln.z7b (x.p.L i).out ((x.p.L i).out.g+1) (z1e x i false f) (x.c i).h2 x.ck).g=(x.p.L i).out.g+1:=fun h=>by rw[z9J h]
 change Ln.z0Z (x.p.L i).out=true at a0;change small (x.p.L i).out.S at a1;obtain⟨-,d5,-,a9,d6⟩:=(z1J _).1 a0
 have b4:(z3x (x.p.L i).out).size<=100:=by
  unfold z3x
  split
  ·decide
  ·rename_i hn;refine a1 _ ?_;rw[List.getD_eq_getElem?_getD,List.getElem?_eq_getElem (by omega)]
   exact List.getElem_mem _
 have b5:(z1e x i false f).size<=maxLen:=by
  have hm:(1000:Nat)<=maxLen:=by decide
  have h2:(q1A (z3x (x.p.L i).out)).size<=100:=z5l (by simp) (by simp)
  have h3:(z1e x i false f).size<=100:=by
   cases f
   ·exact b4
   ·exact h2
  omega
 have d7:=hC.lt;have e8:(i:Int)<2:=by omega
 have e9:(0:Int)<=(i:Int):=by omega
 have f4:IntKind.i64.wrap ((x.p.L i).out.g+1)=(x.p.L i).out.g+1:=z7l (by omega) (by omega)
 have a2:z0C P w (v.p.l i).said 1 16 (txC (x.p.L i).out.S):=(hI.p.lk i W).said;have b6:z0C P w (v.p.l i).due 1 8 (inC (x.p.L i).out.D):=(hI.p.lk i W).due;have C:=J6 (fun (a:World) (hb:Bl w a)=>(q0B x v W (x.p.L i).out (v.p.l i).said (v.p.l i).due).part (hC.over hb));have a3:=J6 (fun (a:World) (hb:Bl w a)=>q0K g (68+i * 14+6) (x.p.L i).out (v.p.l i).said P a (a2.over hb) (z8P (C.out a hb)).1 (z8P (C.out a hb)).2 a9);have E:=J6 (fun (a:World)=>q0f (z3x (x.p.L i).out) a (by omega))
 have b7:=J6 (fun (k a:World) (h4:Bl w k) (hb:Bl k a)=>q7x (x.p.L i).out ((x.p.L i).out.g+1) (z1e x i false f) (x.c i).h2 x.ck (v.p.l i).said (v.p.l i).due (fun b=>P b/\b<k.heap.size) a ((((a2.over h4).mono (P':=fun b=>P b/\b<k.heap.size) fun b Q hp=>⟨hp,Q⟩).over hb)) ((((b6.over h4).mono (P':=fun b=>P b/\b<k.heap.size) fun b Q hp=>⟨hp,Q⟩).over hb)));have b8:=J6 (fun (a:World) (hb:Bl w a)=>(show (z2i (J2 (some ⟨g,68+i * 14+6,none⟩))).run prog a=.ok (J4 #[(v.p.l i).said,(v.p.l i).due,J I (x.p.L i).out.g,J3 (x.p.L i).out.cl]) a/\a.cell? ⟨g,68+i * 14+6+2,none⟩=some (J I (x.p.L i).out.g)/\a.cell? ⟨g,99+i * 22+18+2,none⟩=some (J I (x.c i).h2)/\a.cell? ⟨g,0,none⟩=some (J I x.ck) from⟨z5n (C.out a hb) rfl,(z8P (C.out a hb)).2,(z9m (hC.over hb) W).2.1,(hC.over hb).cell 0⟩));have b9:=J6 (fun (a:World) (hb:Bl w a)=>q0R g x v P a i W false (z1e x i false f) (hC.over hb) (hI.over hb) hg b5 X a7);have c4:=J6 (q0c g i W w);have HC:=J6 hC;have HI:=J6 hI;clear hC hI a2 b6 C X a7 a0 a1 d5 a9 d6 b4 b5;generalize q4H x i false f=D at *;generalize z2S x i false (z1e x i false f)=rh at *;obtain⟨xh,he⟩:=rh;dsimp only at hD;generalize Ln.z4p (x.p.L i).out ((x.p.L i).out.g+1) (z1e x i false f) (x.c i).h2 x.ck=de at *;generalize Ln.z7b (x.p.L i).out ((x.p.L i).out.g+1) (z1e x i false f) (x.c i).h2 x.ck=dl at *
 have c5:Hid (f=false/\z1e x i false f=z3x (x.p.L i).out∨f=true/\z1e x i false f=q1A (z3x (x.p.L i).out)):=by
  cases f
  ·exact .inl ⟨rfl,rfl⟩
  ·exact .inr ⟨rfl,rfl⟩
 generalize z1e x i false f=tx at *;generalize z3x (x.p.L i).out=nx at *;generalize Value.agg #[(v.p.l i).said,(v.p.l i).due,J I (x.p.L i).out.g,J3 (x.p.L i).out.cl]=V0 at *;generalize (x.p.L i).out.g=lg at *;generalize (x.c i).h2=sd at *;have F:=J6 hD;have c6:=J6 a8;clear hD a8
 go_enter func63,ntmps63
 go_upto_region 2 with (go_at_call 84;refine c4.out.mono ?_;rintro e w1⟨rfl,a4⟩;obtain⟨w2,s2,K2,bS⟩:=z9S w1 (J2 (some ⟨g,68+i * 14+6,none⟩)) (J2 (some ⟨g,68+i * 14+10,none⟩)) (J2 (some ⟨g,99+i * 22+18,none⟩)) (by simp[Value.oneCell']);have r:=J6 (show _/\_ from⟨K2,zbt a4 bS⟩);have d8:=a4.size;clear K2 bS a4)
 clear s2 c4;obtain⟨R,c7⟩:∃ y,y=w1.heap.size:=⟨_,rfl⟩;rw[<- c7]at r d8 ⊢;clear c7;have f5:g≠R:=by omega
 have k0:w2.cell? ⟨R,0,none⟩=some (J2 (some ⟨g,68+i * 14+6,none⟩)):=r.out.1.cell 0;have f6:=r.out.1.lt
 rcases c5.out with⟨rfl,e0⟩ | ⟨rfl,e1⟩
 all_goals clear c5
 all_goals first | (subst e0;clear E) | (rw[<- e1]at E;clear e1)
 all_goals
  go_upto_region 5 with (first | (go_at_call 86;refine (E.out _).mono ?_;rintro e k⟨rfl,z⟩;have H:=J6 (zbt c8.out z);have M:=J6 (c9.out.over z);clear z) | (go_at_call 85;have _m:=E;refine (a3.out _ (by with_reducible exact r.out.2)).mono ?_;rintro e w3⟨rfl,s⟩;have c8:=J6 (zbt r.out.2 s);have c9:=J6 (r.out.1.over s);clear s) | (go_at_call 85;refine (a3.out _ (by with_reducible exact r.out.2)).mono ?_;rintro e k⟨rfl,z⟩;have H:=J6 (zbt r.out.2 z);have M:=J6 (r.out.1.over z);clear z))
  clear k0 r a3
  try clear c8 c9 E _m
  have f7:=H.out.size;have a5:=J6 (fun (a:World) (hb:Bl k a)=>b7.out k a H.out hb);have t:Hid (∀ (a:World),Bl k a->a.cell? ⟨R,0,none⟩=some (J2 (some ⟨g,68+i * 14+6,none⟩))/\a.cell? ⟨R,2,none⟩=some (J2 (some ⟨g,99+i * 22+18,none⟩))/\(z2i (J2 (some ⟨g,68+i * 14+6,none⟩))).run prog a=.ok V0 a/\a.cell? ⟨g,68+i * 14+6+2,none⟩=some (J I lg)/\a.cell? ⟨g,99+i * 22+18+2,none⟩=some (J I sd)/\a.cell? ⟨g,0,none⟩=some (J I x.ck)):=fun a hb=>⟨(M.out.over hb).cell 0,(M.out.over hb).cell 2,b8.out a (zbt H.out hb)⟩;have B:Hid (Bl k (k.alloc (J5 Z4' 48)).drew):=(znw k _).drew;have Y:Hid (CAt 48 (k.alloc (J5 Z4' 48)).drew k.heap.size Z4'):=CAt.new 48 k Z4';unfold Z4' at B;clear b7 b8;apply q0p (fun (gn:Nat) (ts:Array Value) w'=>j5t P k dl gn ts w')
  ·skip;refine wp_region_noPanic ?_;refine wp_region_held_drew (S:=fun a=>Bl k a) (by kernel_rfl) (Below.refl _ _).drew (fun n=>?_)
   refine O.G 0 (J2 (some ⟨R,0,none⟩)) 26 rfl rfl n ?_;refine O.Z 1 (J2 (some ⟨g,68+i * 14+6,none⟩)) 27 rfl rfl n (fun a d=>by obtain⟨k0,k2,l3,l4,l5,l6⟩:=t.out a d;go_simp) ?_
   refine O.G 2 (J2 (some ⟨g,68+i * 14+6,none⟩)) 28 rfl rfl n ?_;refine O.Z 3 V0 29 rfl rfl n (fun a d=>by obtain⟨k0,k2,l3,l4,l5,l6⟩:=t.out a d;go_simp) ?_
   refine O.G 4 (J2 (some ⟨R,0,none⟩)) 30 rfl rfl n ?_;refine O.Z 5 (J2 (some ⟨g,68+i * 14+6,none⟩)) 31 rfl rfl n (fun a d=>by obtain⟨k0,k2,l3,l4,l5,l6⟩:=t.out a d;go_simp) ?_
   refine O.G 6 (J2 (some ⟨g,68+i * 14+6,none⟩)) 32 rfl rfl n ?_;refine O.G 7 (J2 (some ⟨g,68+i * 14+6+2,none⟩)) 33 rfl rfl n ?_;refine O.Z 8 (J I lg) 34 rfl rfl n (fun a d=>by obtain⟨k0,k2,l3,l4,l5,l6⟩:=t.out a d;go_simp) ?_
   refine O.G 9 (J I (lg+1)) 35 rfl rfl n ?_;refine O.G 10 (.string tx) 36 rfl rfl n ?_;refine O.G 11 (J2 (some ⟨R,2,none⟩)) 37 rfl rfl n ?_;refine O.Z 12 (J2 (some ⟨g,99+i * 22+18,none⟩)) 38 rfl rfl n (fun a d=>by obtain⟨k0,k2,l3,l4,l5,l6⟩:=t.out a d;go_simp) ?_
   refine O.G 13 (J2 (some ⟨g,99+i * 22+18,none⟩)) 39 rfl rfl n ?_;refine O.G 14 (J2 (some ⟨g,99+i * 22+18+2,none⟩)) 40 rfl rfl n ?_;refine O.Z 15 (J I sd) 41 rfl rfl n (fun a d=>by obtain⟨k0,k2,l3,l4,l5,l6⟩:=t.out a d;go_simp) ?_
   refine O.G 16 (J2 (some ⟨g,0,none⟩)) 42 rfl rfl n ?_;refine O.G 17 (J2 (some ⟨g,0,none⟩)) 43 rfl rfl n ?_;refine O.G 18 (J2 (some ⟨g,0,none⟩)) 44 rfl rfl n ?_;refine O.Z 19 (J I x.ck) 45 rfl rfl n (fun a d=>by obtain⟨k0,k2,l3,l4,l5,l6⟩:=t.out a d;go_simp) ?_
   refine O.z3j (i:=20) (j:=24) (by kernel_rfl) rfl rfl rfl rfl (fun K N=>?_) (fun K N=>?_)
   ·go_simp
    go_at_call 87
    refine (a5.out _ (by with_reducible exact (Below.refl k.heap.size k).drew)).mono ?_
    rintro e w3⟨u1,u2,rfl,U1,U2,s⟩;skip;have hb:=(Below.refl k.heap.size k).drew.trans (s.mono (Below.refl k.heap.size k).drew.size);obtain⟨ts,A⟩:∃ y:Array Value,y=#[u1,u2,J I dl.g,J3 dl.cl]:=⟨_,rfl⟩;dsimp only;rw[<- A];have T:=J6 A;clear A;refine N _ _ hb ?_;clear N K;refine O.Z 21 (.tuple #[J4 ts,(J I de)]) 25 rfl rfl hb (fun a d=>?_) ?_
    ·go_simp
    refine O.Z 22 (J4 ts) 47 rfl rfl hb (fun a d=>?_) ?_
    ·go_simp
    refine O.Z 23 (J I de) 48 rfl rfl hb (fun a d=>?_) ?_
    ·go_simp
    refine O.z0R (i:=24) (by kernel_rfl) rfl rfl (fun K N=>?_)
    go_simp;refine N _ _ (hb.alloc hb.size _) ?_;clear N K;have q2:ts.all (fun x=>x.oneCell')=true:=by rw[T.out];exact z2V U1 U2 _ _
    have m:=z6I (l:=dl) U1 U2 (by rfl) hb
    rw[<- T.out]at m;change wpAnyH _ _ _ _ _ _ _ _ (w3.alloc (J5 Z4' 48));refine O.z0n (i:=25) (by kernel_rfl) rfl rfl 48 _ _ rfl rfl w3.heap.size 0 ts rfl rfl ((CAt.new 48 w3 Z4').there 0 _ (by rw[T.out];exact Nat.le_of_eq rfl)) (by rw[T.out,z4M];rfl) q2 m.bel ?_
    refine O.Z 26 (J I de) 13 rfl rfl m.bel (fun a d=>?_) ?_
    ·go_simp
    refine wpAnyH_done (by kernel_rfl) ?_ _
    obtain⟨gn,U⟩:∃ y,y=w3.heap.size:=⟨_,rfl⟩;rw[<- U]at m ⊢;simp only[O.pp,O.pb,O.pc];exact NoPanic.normal ⟨gn,ts,rfl,rfl,m⟩
   ·go_simp;refine N _ _ (n.alloc n.size _) ?_;clear N K;refine O.z0R (i:=20) (by kernel_rfl) rfl rfl (fun K N=>?_)
    go_simp
    go_at_call 87
    refine (a5.out _ (by with_reducible exact B.out)).mono ?_
    rintro e w3⟨u1,u2,rfl,U1,U2,s⟩;skip;have hb:=zbt B.out s;obtain⟨ts,A⟩:∃ y:Array Value,y=#[u1,u2,J I dl.g,J3 dl.cl]:=⟨_,rfl⟩;dsimp only;rw[<- A];have T:=J6 A;clear A;refine N _ _ hb ?_;clear N K;refine O.Z 21 (.tuple #[J4 ts,(J I de)]) 25 rfl rfl hb (fun a d=>?_) ?_
    ·go_simp
    refine O.Z 22 (J4 ts) 47 rfl rfl hb (fun a d=>?_) ?_
    ·go_simp
    refine O.Z 23 (J I de) 48 rfl rfl hb (fun a d=>?_) ?_
    ·go_simp
    have q2:ts.all (fun x=>x.oneCell')=true:=by rw[T.out];exact z2V U1 U2 _ _
    have R3:=Y.out.over s;have m:=z6H (l:=dl) U1 U2 (by simp) hb R3
    rw[<- T.out]at m;refine O.z0n (i:=25) (by kernel_rfl) rfl rfl 48 _ _ rfl rfl k.heap.size 0 ts rfl rfl (R3.there 0 _ (by rw[T.out];exact Nat.le_of_eq rfl)) (by rw[T.out,z4M];rfl) q2 m.bel ?_
    refine O.Z 26 (J I de) 13 rfl rfl m.bel (fun a d=>?_) ?_
    ·go_simp
    refine wpAnyH_done (by kernel_rfl) ?_ _
    obtain⟨gn,U⟩:∃ y,y=k.heap.size:=⟨_,rfl⟩;rw[<- U]at m ⊢;simp only[O.pp,O.pb,O.pc];exact NoPanic.normal ⟨gn,ts,rfl,rfl,m⟩
  rintro gn ts w5 S5;have d0:=J6 S5;have f8:=S5.le;have e3:=S5.cat.lt;have u:=J6 (zbt H.out S5.bel);have d9:=J6 (M.out.over S5.bel);clear S5 t a5 B Y M;have U:g≠gn:=by omega
  simp only[Exit.then];apply_assumption
  by_cases hE:de=0
  case neg =>
   replace F:=J6 (F.out.trans (if_neg hE));have f9:(de != 0)=true:=by simpa using hE
   go_wp2;go_ret2;rw[F.out];exact⟨rfl,.same (HC.out.over u.out) HI.out hg (Alt.of u.out)⟩
  subst hE;replace F:=J6 (F.out.trans (if_pos rfl));have e2:=c6.out rfl;obtain⟨u1,u2,d1,d2,d3⟩:=d0.out.ex;have HU:=J6 (show _/\_/\_ from⟨d1,d2,d3⟩);clear d1 d2 d3 c6
  by_cases hH:he=0
  case neg =>
   replace F:=J6 (F.out.trans (if_neg hH));have g0:(he != 0)=true:=by simpa using hH
   go_wp2_with (go_at_call 88;refine (b9.out _ u.out).mono ?_;rintro e w6⟨rfl,Z6⟩;have V:=J6 Z6;clear Z6;dsimp only)
   go_ret2;rw[F.out];obtain⟨v6,C6,I6,A6⟩:=V.out
   exact⟨rfl,v6,C6,I6.mono fun b _ hb=>by
    rcases hb with⟨hb,Q⟩ | hb
    ·by_cases hw:b<w.heap.size
     ·exact .inl ⟨hb,hw⟩
     ·exact .inr (by omega)
    ·exact .inr (by have:=u.out.size;omega),(Alt.of (g:=g) u.out).trans A6⟩
  subst hH;replace F:=J6 (F.out.trans (if_pos rfl))
  go_upto_region 11 with (go_at_call 88;refine (b9.out _ u.out).mono ?_;rintro e w6⟨rfl,Z6⟩;have V:=J6 Z6;clear Z6;dsimp only)
  obtain⟨v6,C6,I6,A6⟩:=V.out
  have d4:WIn (New P w 0) w6 xh v6:=I6.mono fun b _ hb=>by
   rcases hb with⟨hb,Q⟩ | hb
   ·by_cases hw:b<w.heap.size
    ·exact .inl ⟨hb,hw⟩
    ·exact .inr (by omega)
   ·exact .inr (by have:=u.out.size;omega)
  have a6:¬ New P w 0 g:=Pv.z0I hg d7
  have key:∀ b,b<w5.heap.size->(New P k 0 b/\b≠gn)->New P w 0 b:=fun b _ hb=>by
   rcases hb.1 with⟨hb,Q⟩ | hb
   ·by_cases hw:b<w.heap.size
    ·exact .inl ⟨hb,hw⟩
    ·exact .inr (by omega)
   ·exact .inr (by omega)
  have K6:=A6.cat (b:=R) (by omega) d9.out
  have L6:=A6.cat (b:=gn) (by omega) d0.out.cat
  have y0:w6.cell? ⟨R,0,none⟩=some (J2 (some ⟨g,68+i * 14+6,none⟩)):=K6.cell 0;have R1:z0C (New P w 0) w6 u1 1 16 (txC dl.S):=(HU.out.2.1.mono key).keep fun b hb Q=>A6.block b Q fun e=>a6 (e ▸ hb);have R2:z0C (New P w 0) w6 u2 1 8 (inC dl.D):=(HU.out.2.2.mono key).keep fun b hb Q=>A6.block b Q fun e=>a6 (e ▸ hb)
  have l6:(z2i (J2 (some ⟨gn,0,none⟩))).run prog w6=.ok (J4 ts) w6:=by
   have h:=z5n L6.range (by rw[HU.out.1];rfl)
   simpa using h
  have s6:=z8b ((q0B xh v6 W dl u1 u2).there C6) rfl (by have h:=z2V R1 R2 dl.g dl.cl;simpa [lnL] using h)
  have Z7:=q6M d4 a6 C6 W R1 R2;change (z2K (J2 (some ⟨g,68+i * 14+6,none⟩)) (J4 #[u1,u2,J I dl.g,J3 dl.cl])).run prog w6=_ at s6;rw[<- HU.out.1]at s6;have L7:=L6.others (c:=g) (o:=68+i * 14+6) (by omega) (lnL dl u1 u2)
  have HX:=J6 (z1b.trans ((Alt.of (g:=g) u.out).trans A6) Z7);rw[HU.out.1]at L7;generalize w6.setCells g (68+i * 14+6) (lnL dl u1 u2)=w7 at *;have y7:w7.cell? ⟨gn,2,none⟩=some (J I (lg+1)):=by rw[<- e2];exact L7.cell 2
  have e4:=C6.lt;have e5:=K6.lt;have e6:=L6.lt;have e7:=L7.lt;clear C6 I6 d4 A6 K6 L6 R1 R2 Z7 L7 V key;go_wp2;go_ret2;rw[F.out];exact⟨rfl,HX.out⟩
end Wd
namespace Wd
open Go.RowKit Pv Kc
def j8m:CsV:=⟨J1 none 0 0,J1 none 0 0,J1 none 0 0,J1 none 0 0,J1 none 0 0⟩
def q1D:WoV:=⟨q1N,fun _=>j8m⟩
theorem j6s(P:Nat->Prop)(w:World):CIn P w csN j8m:=⟨Rep.nil _ _ _ _,z6S.nil _ _,Rep.nil _ _ _ _,z0C.nil _ _ _ _,z0C.nil _ _ _ _⟩
theorem j4g(P:Nat->Prop)(w:World):WIn P w z8k q1D:=by
 refine⟨⟨Rep.nil _ _ _ _,Rep.nil _ _ _ _,fun c _=>⟨Rep.nil _ _ _ _,Rep.nil _ _ _ _,z0C.nil _ _ _ _,z0C.nil _ _ _ _⟩,⟨[],rfl,Rep.nil _ _ _ _,fun i x y h=>by cases h⟩⟩,fun i _=>j6s P w⟩
theorem j0O(w:World):Calls prog 7 #[] w fun e w'=>∃ g,e=.returned (J2 (some ⟨g,0,none⟩))/\CAt 97 w' g (wdC z8k q1D)/\w.heap.size<=g/\Bl w w':=by
 have d:=J6 (j0a w);have f:Hid (∀ w1:World,Bl w w1->CAt 97 (w1.alloc (J5 (wdC z8k q1D) 97)) w1.heap.size (wdC z8k q1D)/\Bl w (w1.alloc (J5 (wdC z8k q1D) 97))):=fun w1 hb=>⟨CAt.new _ w1 _,hb.alloc hb.size _⟩
 go_enter func7,ntmps7
 go_upto_region 1 with fail
 apply wp_region_lit
 go_step
 go_step
 refine d.out.mono ?_;rintro e w1⟨rfl,h1⟩;have b:=J6 h1;clear h1;dsimp only
 go_step
 go_step
 go_step
 change Oper.upon prog _ _ _ _ (Result.ok (Next.value (J4 (wdC z8k q1D))) w1);obtain⟨C,B⟩:=f.out w1 b.out;obtain⟨ts,a⟩:∃ y,y=wdC z8k q1D:=⟨_,rfl⟩;rw[<- a]at C B ⊢;have c:=J6 (show _/\_/\_ from⟨C,B,a⟩);clear C B a;go_simp;apply_assumption;go_wp2;go_ret;refine⟨w1.heap.size,rfl,?_,b.out.size,c.out.2.1⟩;have h:=c.out.1;have e:=c.out.2.2;exact Eq.mp (congrArg (CAt 97 _ _) e) h
theorem q5t(g:Nat)(x:Wo)(v:WoV)(w:World)(a:CAt 97 w g (wdC x v)):Calls prog 32 #[J2 (some ⟨g,0,none⟩)] w fun e w'=>e=.returned (J I x.ck)/\w=w':=by
 have c0:w.cell? ⟨g,0,none⟩=some (J I x.ck):=a.cell 0;have b:=a.lt;clear a
 go_enter func32,ntmps32
 go_wp2;go_ret;exact⟨rfl,rfl⟩
end Wd
end Go.Proofs.YtddlhnoedldidaaGreat
