/- Parts of the proof. -/
import Derived.Test.YtddlhnoedldidaaGreatML
import Derived.Test.YtddlhnoedldidaaGreatMK13
set_option maxRecDepth 100000
set_option maxHeartbeats 16000000
namespace Go.Proofs.YtddlhnoedldidaaGreat
open Go.Proofs.Tryz
open Value renaming int->J,slice->J1,pointer->J2,bool->J3,agg->J4
open IntKind renaming i64->I
open Obj renaming cells->J5
namespace Wd
open Go.RowKit Pv Kc
attribute [local go_sem ↓] z1Z z1y z4A z0H z0w z1r z1j
theorem j5T(g:Nat)(x:Wo)(v:WoV)(P:Nat->Prop)(w:World)(i:Nat)(A:i<2)(k:Int)(hC:CAt 97 w g (wdC x v))(hI:WIn P w x v)(hg:¬ P g)(R:x.p.q.length * 88<=140737488351232) :
  Calls prog 64 #[J2 (some ⟨g,0,none⟩),.int .i64 (i:Int),J3 true,.int .i64 k] w (q2s P w g (q1T x i true k)):=by
 have hD:q1T x i true k=if Ln.z5k (x.c i).out k (x.c i).h1 (x.c i).h3=0 then (j4V (z3g x i true (Ln.z9O (x.c i).out k (x.c i).h1 (x.c i).h3)) i,0) else (x,Ln.z5k (x.c i).out k (x.c i).h1 (x.c i).h3):=rfl;have a7:∀ dl,(z3g x i true dl).p.q=x.p.q:=fun dl=>rfl;have d9:=hC.lt;have e6:(i:Int)<2:=by omega
 have e7:(0:Int)<=(i:Int):=by omega
 have a8:z0C P w (v.c i).said 1 16 (txC (x.c i).out.S):=(hI.c i A).said;have a9:z0C P w (v.c i).due 1 8 (inC (x.c i).out.D):=(hI.c i A).due;have b4:=J6 (fun (a:World) (hb:Bl w a)=>(q0k x v A (x.c i).out (v.c i).said (v.c i).due).part (hC.over hb));have b5:=J6 (fun (m a:World) (h4:Bl w m) (hb:Bl m a)=>q6X (x.c i).out k (x.c i).h1 (x.c i).h3 (v.c i).said (v.c i).due (fun b=>P b/\b<m.heap.size) a ((((a8.over h4).mono (P':=fun b=>P b/\b<m.heap.size) fun b hl hp=>⟨hp,hl⟩).over hb)) ((((a9.over h4).mono (P':=fun b=>P b/\b<m.heap.size) fun b hl hp=>⟨hp,hl⟩).over hb)));have b6:=J6 (fun (a:World) (hb:Bl w a)=>(show (z2i (J2 (some ⟨g,99+i * 22+14,none⟩))).run prog a=.ok (J4 #[(v.c i).said,(v.c i).due,.int .i64 (x.c i).out.g,J3 (x.c i).out.cl]) a/\a.cell? ⟨g,99+i * 22+18+1,none⟩=some (.int .i64 (x.c i).h1)/\a.cell? ⟨g,99+i * 22+18+3,none⟩=some (.int .i64 (x.c i).h3) from⟨z5n (b4.out a hb) rfl,(z9m (hC.over hb) A).1,(z9m (hC.over hb) A).2.2⟩));have b7:=J6 (q3O g i A w);have HC:=J6 hC;have HI:=J6 hI;have HQ:=J6 R;clear hC hI a8 a9 b4 R;generalize q1T x i true k=D at *;generalize Ln.z5k (x.c i).out k (x.c i).h1 (x.c i).h3=de at *;generalize Ln.z9O (x.c i).out k (x.c i).h1 (x.c i).h3=dl at *;generalize Value.agg #[(v.c i).said,(v.c i).due,.int .i64 (x.c i).out.g,J3 (x.c i).out.cl]=V0 at *;generalize (x.c i).h1=tm at *;generalize (x.c i).h3=gt at *;have HD:=J6 hD;have e0:=J6 (a7 dl);clear hD a7
 go_enter func64,ntmps64
 go_upto_region 2 with (go_at_call 84;refine b7.out.mono ?_;rintro e w1⟨rfl,V⟩;obtain⟨m,s2,K2,bS⟩:=z9S w1 (J2 (some ⟨g,99+i * 22+14,none⟩)) (J2 (some ⟨g,99+i * 22+18,none⟩)) (J2 (some ⟨g,68+i * 14+10,none⟩)) (by simp[Value.oneCell']);have F:=J6 (show _/\_ from⟨K2,zbt V bS⟩);have e1:=V.size;clear K2 bS V)
 clear s2 b7;obtain⟨W,c4⟩:∃ y,y=w1.heap.size:=⟨_,rfl⟩;rw[<- c4]at F e1 ⊢;clear c4;have e8:g≠W:=by omega
 have H:=J6 F.out.2;have B:=J6 F.out.1;have e9:=B.out.lt;clear F;have f4:=H.out.size;have a0:=J6 (fun (a:World) (hb:Bl m a)=>b5.out m a H.out hb);have r:Hid (∀ (a:World),Bl m a->a.cell? ⟨W,0,none⟩=some (J2 (some ⟨g,99+i * 22+14,none⟩))/\a.cell? ⟨W,1,none⟩=some (J2 (some ⟨g,99+i * 22+18,none⟩))/\(z2i (J2 (some ⟨g,99+i * 22+14,none⟩))).run prog a=.ok V0 a/\a.cell? ⟨g,99+i * 22+18+1,none⟩=some (.int .i64 tm)/\a.cell? ⟨g,99+i * 22+18+3,none⟩=some (.int .i64 gt)):=fun a hb=>⟨(B.out.over hb).cell 0,(B.out.over hb).cell 1,b6.out a (zbt H.out hb)⟩;have t:Hid (Bl m (m.alloc (J5 Z4' 48)).drew):=(znw m _).drew;have T:Hid (CAt 48 (m.alloc (J5 Z4' 48)).drew m.heap.size Z4'):=CAt.new 48 m Z4';unfold Z4' at t;clear b5 b6;apply q0p (fun (gn:Nat) (ts:Array Value) w'=>j5t P m dl gn ts w')
 ·skip;refine wp_region_noPanic ?_;refine wp_region_held_drew (S:=fun a=>Bl m a) (by kernel_rfl) (Below.refl _ _).drew (fun f=>?_)
  refine O.G 0 (J2 (some ⟨W,0,none⟩)) 17 rfl rfl f ?_;refine O.Z 1 (J2 (some ⟨g,99+i * 22+14,none⟩)) 18 rfl rfl f (fun a d=>by obtain⟨k0,k1,l3,l4,l5⟩:=r.out a d;go_simp) ?_
  refine O.G 2 (J2 (some ⟨g,99+i * 22+14,none⟩)) 19 rfl rfl f ?_;refine O.Z 3 V0 20 rfl rfl f (fun a d=>by obtain⟨k0,k1,l3,l4,l5⟩:=r.out a d;go_simp) ?_
  refine O.G 4 (.int .i64 k) 21 rfl rfl f ?_;refine O.G 5 (J2 (some ⟨W,1,none⟩)) 22 rfl rfl f ?_;refine O.Z 6 (J2 (some ⟨g,99+i * 22+18,none⟩)) 23 rfl rfl f (fun a d=>by obtain⟨k0,k1,l3,l4,l5⟩:=r.out a d;go_simp) ?_
  refine O.G 7 (J2 (some ⟨g,99+i * 22+18,none⟩)) 24 rfl rfl f ?_;refine O.G 8 (J2 (some ⟨g,99+i * 22+18+1,none⟩)) 25 rfl rfl f ?_;refine O.Z 9 (.int .i64 tm) 26 rfl rfl f (fun a d=>by obtain⟨k0,k1,l3,l4,l5⟩:=r.out a d;go_simp) ?_
  refine O.G 10 (J2 (some ⟨W,1,none⟩)) 27 rfl rfl f ?_;refine O.Z 11 (J2 (some ⟨g,99+i * 22+18,none⟩)) 28 rfl rfl f (fun a d=>by obtain⟨k0,k1,l3,l4,l5⟩:=r.out a d;go_simp) ?_
  refine O.G 12 (J2 (some ⟨g,99+i * 22+18,none⟩)) 29 rfl rfl f ?_;refine O.G 13 (J2 (some ⟨g,99+i * 22+18+3,none⟩)) 30 rfl rfl f ?_;refine O.Z 14 (.int .i64 gt) 31 rfl rfl f (fun a d=>by obtain⟨k0,k1,l3,l4,l5⟩:=r.out a d;go_simp) ?_
  refine O.z3j (i:=15) (j:=19) (by kernel_rfl) rfl rfl rfl rfl (fun K u=>?_) (fun K u=>?_)
  ·go_simp
   go_at_call 89
   refine (a0.out _ (by with_reducible exact (Below.refl m.heap.size m).drew)).mono ?_
   rintro e w3⟨u1,u2,rfl,U1,U2,L⟩;skip;have hb:=(Below.refl m.heap.size m).drew.trans (L.mono (Below.refl m.heap.size m).drew.size);obtain⟨ts,s⟩:∃ y:Array Value,y=#[u1,u2,.int .i64 dl.g,J3 dl.cl]:=⟨_,rfl⟩;dsimp only;rw[<- s];have z:=J6 s;clear s;refine u _ _ hb ?_;clear u K;refine O.Z 16 (.tuple #[J4 ts,(.int .i64 de)]) 16 rfl rfl hb (fun a d=>?_) ?_
   ·go_simp
   refine O.Z 17 (J4 ts) 33 rfl rfl hb (fun a d=>?_) ?_
   ·go_simp
   refine O.Z 18 (.int .i64 de) 34 rfl rfl hb (fun a d=>?_) ?_
   ·go_simp
   refine O.z0R (i:=19) (by kernel_rfl) rfl rfl (fun K u=>?_)
   go_simp;refine u _ _ (hb.alloc hb.size _) ?_;clear u K;have q2:ts.all (fun x=>x.oneCell')=true:=by rw[z.out];exact z2V U1 U2 _ _
   have n:=z6I (l:=dl) U1 U2 (by rfl) hb
   rw[<- z.out]at n;change wpAnyH _ _ _ _ _ _ _ _ (w3.alloc (J5 Z4' 48));refine O.z0n (i:=20) (by kernel_rfl) rfl rfl 48 _ _ rfl rfl w3.heap.size 0 ts rfl rfl ((CAt.new 48 w3 Z4').there 0 _ (by rw[z.out];exact Nat.le_of_eq rfl)) (by rw[z.out,z4M];rfl) q2 n.bel ?_
   refine O.Z 21 (.int .i64 de) 11 rfl rfl n.bel (fun a d=>?_) ?_
   ·go_simp
   refine wpAnyH_done (by kernel_rfl) ?_ _
   obtain⟨gn,M⟩:∃ y,y=w3.heap.size:=⟨_,rfl⟩;rw[<- M]at n ⊢;simp only[O.pp,O.pb,O.pc];exact NoPanic.normal ⟨gn,ts,rfl,rfl,n⟩
  ·go_simp;refine u _ _ (f.alloc f.size _) ?_;clear u K;refine O.z0R (i:=15) (by kernel_rfl) rfl rfl (fun K u=>?_)
   go_simp
   go_at_call 89
   refine (a0.out _ (by with_reducible exact t.out)).mono ?_
   rintro e w3⟨u1,u2,rfl,U1,U2,L⟩;skip;have hb:=zbt t.out L;obtain⟨ts,s⟩:∃ y:Array Value,y=#[u1,u2,.int .i64 dl.g,J3 dl.cl]:=⟨_,rfl⟩;dsimp only;rw[<- s];have z:=J6 s;clear s;refine u _ _ hb ?_;clear u K;refine O.Z 16 (.tuple #[J4 ts,(.int .i64 de)]) 16 rfl rfl hb (fun a d=>?_) ?_
   ·go_simp
   refine O.Z 17 (J4 ts) 33 rfl rfl hb (fun a d=>?_) ?_
   ·go_simp
   refine O.Z 18 (.int .i64 de) 34 rfl rfl hb (fun a d=>?_) ?_
   ·go_simp
   have q2:ts.all (fun x=>x.oneCell')=true:=by rw[z.out];exact z2V U1 U2 _ _
   have R3:=T.out.over L;have n:=z6H (l:=dl) U1 U2 (by simp) hb R3
   rw[<- z.out]at n;refine O.z0n (i:=20) (by kernel_rfl) rfl rfl 48 _ _ rfl rfl m.heap.size 0 ts rfl rfl (R3.there 0 _ (by rw[z.out];exact Nat.le_of_eq rfl)) (by rw[z.out,z4M];rfl) q2 n.bel ?_
   refine O.Z 21 (.int .i64 de) 11 rfl rfl n.bel (fun a d=>?_) ?_
   ·go_simp
   refine wpAnyH_done (by kernel_rfl) ?_ _
   obtain⟨gn,M⟩:∃ y,y=m.heap.size:=⟨_,rfl⟩;rw[<- M]at n ⊢;simp only[O.pp,O.pb,O.pc];exact NoPanic.normal ⟨gn,ts,rfl,rfl,n⟩
 rintro gn ts w5 S5;have c5:=J6 S5;have f5:=S5.le;have e3:=S5.cat.lt;have C:=J6 (zbt H.out S5.bel);have c6:=J6 (B.out.over S5.bel);clear S5 r a0 t T B;have M:g≠gn:=by omega
 simp only[Exit.then];apply_assumption
 by_cases hE:de=0
 case neg =>
  replace HD:=J6 (HD.out.trans (if_neg hE));have f6:(de != 0)=true:=by simpa using hE
  go_wp2;go_ret;rw[HD.out];exact⟨rfl,.same (HC.out.over C.out) HI.out hg (Alt.of C.out)⟩
 subst hE;replace HD:=J6 (HD.out.trans (if_pos rfl));obtain⟨u1,u2,c7,c8,c9⟩:=c5.out.ex;have HU:=J6 (show _/\_/\_ from⟨c7,c8,c9⟩);clear c7 c8 c9;have a1:¬ New P w 0 g:=Pv.z0I hg d9
 have key:∀ b,b<w5.heap.size->(New P m 0 b/\b≠gn)->New P w 0 b:=fun b _ hb=>by
  rcases hb.1 with⟨hb,hl⟩ | hb
  ·by_cases hw:b<w.heap.size
   ·exact .inl ⟨hb,hw⟩
   ·exact .inr (by omega)
  ·exact .inr (by omega)
 have C5:=HC.out.over C.out;have I5:=HI.out.new hg (Alt.of (g:=g) C.out) 0;have R1:=HU.out.2.1.mono key;have R2:=HU.out.2.2.mono key;have y0:w5.cell? ⟨W,0,none⟩=some (J2 (some ⟨g,99+i * 22+14,none⟩)):=c6.out.cell 0
 have l5:(z2i (J2 (some ⟨gn,0,none⟩))).run prog w5=.ok (J4 ts) w5:=by
  have h:=z5n c5.out.cat.range (by rw[HU.out.1];rfl)
  simpa using h
 have s5:=z8b ((q0k x v A dl u1 u2).there C5) rfl (by have h:=z2V R1 R2 dl.g dl.cl;simpa [lnL] using h)
 have Z7:=q8c I5 a1 C5 A R1 R2;change (z2K (J2 (some ⟨g,99+i * 22+14,none⟩)) (J4 #[u1,u2,.int .i64 dl.g,J3 dl.cl])).run prog w5=_ at s5;rw[<- HU.out.1]at s5;have HX:=J6 (z1b.trans (Alt.of (g:=g) C.out) Z7);have e4:=c6.out.lt;have e5:=C5.lt;clear Z7 C5 I5 R1 R2 key;generalize w5.setCells g (99+i * 22+14) (lnL dl u1 u2)=w7 at *;generalize z3g x i true dl=y7 at *
 go_upto_region 6 with fail
 clear y0 l5 s5;obtain⟨v7,C7,I7,A7⟩:=HX.out;have m7:=q9F ((z7P y7 v7 y7.p v7.p).part C7) (z0b _ _);have a2:=J6 (z7e y7.p v7.p (New P w 0) w7 (i:Int) I7.p (by rw[e0.out];exact HQ.out))
 have d0:=C7.lt;have H7:=J6 (show _/\_/\_ from⟨C7,I7,A7⟩);clear C7 I7 A7 HX;have d1:Hid (∀ (o:World) (N:PrV),Bl w7 o->(prC (z0Q y7.p i) N).all (·.oneCell')=true->∃ wS,wS=o.setCells g 2 (prC (z0Q y7.p i) N).toList/\(z6x (J2 (some ⟨g,2,none⟩)) (J4 (prC (z0Q y7.p i) N))).run prog o=.ok () wS):=fun o N b8 h8=>⟨_,rfl,j7h ((z7P y7 v7 (z0Q y7.p i) N).there (H7.out.1.over b8)) (z0b _ _) h8⟩;generalize Value.agg (prC y7.p v7.p)=V7 at m7 a2
 go_upto_region 7 with (go_at_call 90;refine a2.out.mono ?_;rintro e o⟨N,rfl,U8,b8⟩;clear m7;obtain⟨wS,d2,e2⟩:=d1.out o N b8 (z0Y U8);have d3:=J6 d2;clear d2)
 have Z8:=q0Z H7.out.2.1 a1 (Below.refl _ w7) H7.out.1 d0 b8 U8;rw[<- d3.out]at Z8;have d4:=z1b.trans H7.out.2.2 Z8;clear e2 d1 a2;obtain⟨E,Q⟩:∃ E:Wo,E={ y7 with p:=z0Q y7.p i }:=⟨_,rfl⟩
 rw[<- Q]at d4;clear Z8 d3 b8 U8;obtain⟨v8,C8,I8,A8⟩:=d4;generalize Value.agg (prC (z0Q y7.p i) N)=V9;clear N;generalize wS=o at *;have d5:E.c=y7.c:=by rw[Q]
 have a3:=(Below.refl o.heap.size o).drew;have HS:(z5b (J2 (some ⟨g,99+i * 22,none⟩))).run prog o.drew=.ok (J4 (csC (E.c i) (v8.c i))) o.drew:=j2k ((z9W E v8 A (E.c i) (v8.c i)).part (C8.over a3)) (z0i _ _);have a4:=z7r (E.c i) (v8.c i) (New P w 0) o.drew ((I8.c i A).over a3);rw[d5]at HS a4;have a5:=J6 a4;have d6:=C8.lt;have H8:=J6 (show _/\_/\_/\_ from⟨C8,I8,A8,Q⟩);clear C8 I8 A8 Q a4 d5 a3;generalize Value.agg (csC (y7.c i) (v8.c i))=V8 at HS a5;refine O.z1l (c:=8) (S:=fun a=>a=o.drew) (by kernel_rfl) ?_
 have f:o.drew=o.drew:=rfl;refine O.z0v (i:=0) (v:=(J2 (some ⟨g,0,none⟩))) (some 51) rfl rfl (by kernel_rfl) (by kernel_rfl) (by kernel_rfl) (by decide) (fun _ _ _ h=>h) (Or.inl ⟨by rfl,?_⟩) f ?_
 ·intro a;go_simp
 refine O.z0v (i:=1) (v:=(.int .i64 (i:Int))) (some 52) rfl rfl (by kernel_rfl) (by kernel_rfl) (by kernel_rfl) (by decide) (fun _ _ _ h=>h) (Or.inl ⟨by rfl,?_⟩) f ?_
 ·intro a;go_simp
 refine O.z0v (i:=9) (v:=(J2 (some ⟨g,0,none⟩))) (some 60) rfl rfl (by kernel_rfl) (by kernel_rfl) (by kernel_rfl) (by decide) (fun _ _ _ h=>h) (Or.inl ⟨by rfl,?_⟩) f ?_
 ·intro a;go_simp
 refine O.z0v (i:=10) (v:=(J2 (some ⟨g,99,none⟩))) (some 61) rfl rfl (by kernel_rfl) (by kernel_rfl) (by kernel_rfl) (by decide) (fun _ _ _ h=>h) (Or.inl ⟨by rfl,?_⟩) f ?_
 ·intro a;go_simp
 refine O.Y 2 (J2 (some ⟨g,0,none⟩)) 53 rfl rfl f ?_ ?_
 ·rintro a rfl;go_simp
 refine O.Y 3 (.int .i64 (i:Int)) 54 rfl rfl f ?_ ?_
 ·rintro a rfl;go_simp
 refine O.Y 4 (J2 (some ⟨g,0,none⟩)) 55 rfl rfl f ?_ ?_
 ·rintro a rfl;go_simp
 refine O.Y 5 (J2 (some ⟨g,99,none⟩)) 56 rfl rfl f ?_ ?_
 ·rintro a rfl;go_simp
 refine O.Y 6 (J2 (some ⟨g,99+i * 22,none⟩)) 57 rfl rfl f ?_ ?_
 ·rintro a rfl;go_simp
 refine O.Y 7 V8 58 rfl rfl f ?_ ?_
 ·rintro a rfl;have l:=HS;go_simp
 refine O.z1X (by kernel_rfl) rfl (fun K u=>?_)
 refine z0B rfl ?_;go_simp;refine a5.out.mono ?_;rintro e w9⟨u9,rfl,U9,d7⟩;dsimp only;have b9:=(Below.refl o.heap.size o).drew.trans d7;obtain⟨t9,a6⟩:∃ y,y=csC (z1S (y7.c i)) u9:=⟨_,rfl⟩;rw[<- a6];have z:=J6 a6;clear a6;refine u _ _ ?_;clear u K;refine O.X 11 (J2 (some ⟨g,99+i * 22,none⟩)) 62 rfl rfl ?_ ?_
 ·intro a;go_simp
 have q1:(Option.map (fun x=>x.size) (prog.info? 75))=some t9.size:=by rw[z.out,z3q];rfl
 have q2:t9.all (fun x=>x.oneCell')=true:=by rw[z.out];exact z1E U9
 have q3:w9.there g (99+i * 22) t9.size:=by rw[z.out];exact by simpa using (z9W E v8 A (z1S (y7.c i)) u9).there (H8.out.1.over b9)
 refine O.z1Y (i:=12) (by kernel_rfl) rfl rfl 75 _ _ rfl rfl g (99+i * 22) t9 rfl rfl q3 q1 q2 ?_
 refine wpAny_done (by kernel_rfl) ?_ _
 have d8:CIn (New (New P w 0) o 0) w9 (z1S (y7.c i)) u9:=U9.mono fun b _ hb=>by
  rcases hb with⟨hb,hl⟩ | hb
  ·exact .inl ⟨hb,hl⟩
  ·exact .inr (by have:o.drew.heap.size=o.heap.size:=rfl;omega)
 have Z9:=q1Z H8.out.2.1 a1 (Below.refl _ o) H8.out.1 d6 b9 A d8;rw[<- z.out]at Z9;have HZ:=J6 (z1b.trans H8.out.2.2.1 Z9);generalize w9.setCells g (99+i * 22) t9.toList=w10 at *;have U:({ E with c:=z3y E.c i (z1S (y7.c i)) }:Wo)=j4V y7 i:=by rw[H8.out.2.2.2];rfl
 rw[U]at HZ;clear q1 q2 q3 HS f U9 d8 d7 a5 Z9 U;go_simp;go_wp2;go_ret;rw[HD.out];exact⟨rfl,HZ.out⟩
end Wd
namespace Wd
open Go.RowKit Pv Kc
attribute [local go_sem ↓] z1Z z1y z4A z0H z0w z1r z1j
theorem j5P(g:Nat)(x:Wo)(v:WoV)(P:Nat->Prop)(w:World)(i:Nat)(A:i<2)(k:Int)(hC:CAt 97 w g (wdC x v))(hI:WIn P w x v)(hg:¬ P g)(T:x.p.q.length * 88<=140737488351232) :
  Calls prog 64 #[J2 (some ⟨g,0,none⟩),.int .i64 (i:Int),J3 false,.int .i64 k] w (q2s P w g (q1T x i false k)):=by
 have hD:q1T x i false k=if Ln.z5k (x.p.L i).out k (x.p.L i).h1 (x.p.L i).h3=0 then (j4V (z3g x i false (Ln.z9O (x.p.L i).out k (x.p.L i).h1 (x.p.L i).h3)) i,0) else (x,Ln.z5k (x.p.L i).out k (x.p.L i).h1 (x.p.L i).h3):=rfl;have a7:∀ dl,(z3g x i false dl).p.q=x.p.q:=fun dl=>rfl;have d9:=hC.lt;have e6:(i:Int)<2:=by omega
 have e7:(0:Int)<=(i:Int):=by omega
 have a8:z0C P w (v.p.l i).said 1 16 (txC (x.p.L i).out.S):=(hI.p.lk i A).said;have a9:z0C P w (v.p.l i).due 1 8 (inC (x.p.L i).out.D):=(hI.p.lk i A).due;have b4:=J6 (fun (a:World) (hb:Bl w a)=>(q0B x v A (x.p.L i).out (v.p.l i).said (v.p.l i).due).part (hC.over hb));have b5:=J6 (fun (m a:World) (h4:Bl w m) (hb:Bl m a)=>q6X (x.p.L i).out k (x.p.L i).h1 (x.p.L i).h3 (v.p.l i).said (v.p.l i).due (fun b=>P b/\b<m.heap.size) a ((((a8.over h4).mono (P':=fun b=>P b/\b<m.heap.size) fun b hl hp=>⟨hp,hl⟩).over hb)) ((((a9.over h4).mono (P':=fun b=>P b/\b<m.heap.size) fun b hl hp=>⟨hp,hl⟩).over hb)));have b6:=J6 (fun (a:World) (hb:Bl w a)=>(show (z2i (J2 (some ⟨g,68+i * 14+6,none⟩))).run prog a=.ok (J4 #[(v.p.l i).said,(v.p.l i).due,.int .i64 (x.p.L i).out.g,J3 (x.p.L i).out.cl]) a/\a.cell? ⟨g,68+i * 14+10+1,none⟩=some (.int .i64 (x.p.L i).h1)/\a.cell? ⟨g,68+i * 14+10+3,none⟩=some (.int .i64 (x.p.L i).h3) from⟨z5n (b4.out a hb) rfl,(z9T (hC.over hb) A).1,(z9T (hC.over hb) A).2.2⟩));have b7:=J6 (q0c g i A w);have HC:=J6 hC;have HI:=J6 hI;have HQ:=J6 T;clear hC hI a8 a9 b4 T;generalize q1T x i false k=D at *;generalize Ln.z5k (x.p.L i).out k (x.p.L i).h1 (x.p.L i).h3=de at *;generalize Ln.z9O (x.p.L i).out k (x.p.L i).h1 (x.p.L i).h3=dl at *;generalize Value.agg #[(v.p.l i).said,(v.p.l i).due,.int .i64 (x.p.L i).out.g,J3 (x.p.L i).out.cl]=V0 at *;generalize (x.p.L i).h1=tm at *;generalize (x.p.L i).h3=gt at *;have HD:=J6 hD;have e0:=J6 (a7 dl);clear hD a7
 go_enter func64,ntmps64
 go_upto_region 2 with (go_at_call 84;refine b7.out.mono ?_;rintro e w1⟨rfl,W⟩;obtain⟨m,s2,K2,bS⟩:=z9S w1 (J2 (some ⟨g,68+i * 14+6,none⟩)) (J2 (some ⟨g,68+i * 14+10,none⟩)) (J2 (some ⟨g,99+i * 22+18,none⟩)) (by simp[Value.oneCell']);have F:=J6 (show _/\_ from⟨K2,zbt W bS⟩);have e1:=W.size;clear K2 bS W)
 clear s2 b7;obtain⟨gy,c4⟩:∃ y,y=w1.heap.size:=⟨_,rfl⟩;rw[<- c4]at F e1 ⊢;clear c4;have e8:g≠gy:=by omega
 have H:=J6 F.out.2;have B:=J6 F.out.1;have e9:=B.out.lt;clear F;have f4:=H.out.size;have a0:=J6 (fun (a:World) (hb:Bl m a)=>b5.out m a H.out hb);have r:Hid (∀ (a:World),Bl m a->a.cell? ⟨gy,0,none⟩=some (J2 (some ⟨g,68+i * 14+6,none⟩))/\a.cell? ⟨gy,1,none⟩=some (J2 (some ⟨g,68+i * 14+10,none⟩))/\(z2i (J2 (some ⟨g,68+i * 14+6,none⟩))).run prog a=.ok V0 a/\a.cell? ⟨g,68+i * 14+10+1,none⟩=some (.int .i64 tm)/\a.cell? ⟨g,68+i * 14+10+3,none⟩=some (.int .i64 gt)):=fun a hb=>⟨(B.out.over hb).cell 0,(B.out.over hb).cell 1,b6.out a (zbt H.out hb)⟩;have t:Hid (Bl m (m.alloc (J5 Z4' 48)).drew):=(znw m _).drew;have U:Hid (CAt 48 (m.alloc (J5 Z4' 48)).drew m.heap.size Z4'):=CAt.new 48 m Z4';unfold Z4' at t;clear b5 b6;apply q0p (fun (gn:Nat) (ts:Array Value) w'=>j5t P m dl gn ts w')
 ·skip;refine wp_region_noPanic ?_;refine wp_region_held_drew (S:=fun a=>Bl m a) (by kernel_rfl) (Below.refl _ _).drew (fun f=>?_)
  refine O.G 0 (J2 (some ⟨gy,0,none⟩)) 17 rfl rfl f ?_;refine O.Z 1 (J2 (some ⟨g,68+i * 14+6,none⟩)) 18 rfl rfl f (fun a d=>by obtain⟨k0,k1,l3,l4,l5⟩:=r.out a d;go_simp) ?_
  refine O.G 2 (J2 (some ⟨g,68+i * 14+6,none⟩)) 19 rfl rfl f ?_;refine O.Z 3 V0 20 rfl rfl f (fun a d=>by obtain⟨k0,k1,l3,l4,l5⟩:=r.out a d;go_simp) ?_
  refine O.G 4 (.int .i64 k) 21 rfl rfl f ?_;refine O.G 5 (J2 (some ⟨gy,1,none⟩)) 22 rfl rfl f ?_;refine O.Z 6 (J2 (some ⟨g,68+i * 14+10,none⟩)) 23 rfl rfl f (fun a d=>by obtain⟨k0,k1,l3,l4,l5⟩:=r.out a d;go_simp) ?_
  refine O.G 7 (J2 (some ⟨g,68+i * 14+10,none⟩)) 24 rfl rfl f ?_;refine O.G 8 (J2 (some ⟨g,68+i * 14+10+1,none⟩)) 25 rfl rfl f ?_;refine O.Z 9 (.int .i64 tm) 26 rfl rfl f (fun a d=>by obtain⟨k0,k1,l3,l4,l5⟩:=r.out a d;go_simp) ?_
  refine O.G 10 (J2 (some ⟨gy,1,none⟩)) 27 rfl rfl f ?_;refine O.Z 11 (J2 (some ⟨g,68+i * 14+10,none⟩)) 28 rfl rfl f (fun a d=>by obtain⟨k0,k1,l3,l4,l5⟩:=r.out a d;go_simp) ?_
  refine O.G 12 (J2 (some ⟨g,68+i * 14+10,none⟩)) 29 rfl rfl f ?_;refine O.G 13 (J2 (some ⟨g,68+i * 14+10+3,none⟩)) 30 rfl rfl f ?_;refine O.Z 14 (.int .i64 gt) 31 rfl rfl f (fun a d=>by obtain⟨k0,k1,l3,l4,l5⟩:=r.out a d;go_simp) ?_
  refine O.z3j (i:=15) (j:=19) (by kernel_rfl) rfl rfl rfl rfl (fun K u=>?_) (fun K u=>?_)
  ·go_simp
   go_at_call 89
   refine (a0.out _ (by with_reducible exact (Below.refl m.heap.size m).drew)).mono ?_
   rintro e w3⟨u1,u2,rfl,U1,U2,M⟩;skip;have hb:=(Below.refl m.heap.size m).drew.trans (M.mono (Below.refl m.heap.size m).drew.size);obtain⟨ts,s⟩:∃ y:Array Value,y=#[u1,u2,.int .i64 dl.g,J3 dl.cl]:=⟨_,rfl⟩;dsimp only;rw[<- s];have z:=J6 s;clear s;refine u _ _ hb ?_;clear u K;refine O.Z 16 (.tuple #[J4 ts,(.int .i64 de)]) 16 rfl rfl hb (fun a d=>?_) ?_
   ·go_simp
   refine O.Z 17 (J4 ts) 33 rfl rfl hb (fun a d=>?_) ?_
   ·go_simp
   refine O.Z 18 (.int .i64 de) 34 rfl rfl hb (fun a d=>?_) ?_
   ·go_simp
   refine O.z0R (i:=19) (by kernel_rfl) rfl rfl (fun K u=>?_)
   go_simp;refine u _ _ (hb.alloc hb.size _) ?_;clear u K;have q2:ts.all (fun x=>x.oneCell')=true:=by rw[z.out];exact z2V U1 U2 _ _
   have n:=z6I (l:=dl) U1 U2 (by rfl) hb
   rw[<- z.out]at n;change wpAnyH _ _ _ _ _ _ _ _ (w3.alloc (J5 Z4' 48));refine O.z0n (i:=20) (by kernel_rfl) rfl rfl 48 _ _ rfl rfl w3.heap.size 0 ts rfl rfl ((CAt.new 48 w3 Z4').there 0 _ (by rw[z.out];exact Nat.le_of_eq rfl)) (by rw[z.out,z4M];rfl) q2 n.bel ?_
   refine O.Z 21 (.int .i64 de) 11 rfl rfl n.bel (fun a d=>?_) ?_
   ·go_simp
   refine wpAnyH_done (by kernel_rfl) ?_ _
   obtain⟨gn,N⟩:∃ y,y=w3.heap.size:=⟨_,rfl⟩;rw[<- N]at n ⊢;simp only[O.pp,O.pb,O.pc];exact NoPanic.normal ⟨gn,ts,rfl,rfl,n⟩
  ·go_simp;refine u _ _ (f.alloc f.size _) ?_;clear u K;refine O.z0R (i:=15) (by kernel_rfl) rfl rfl (fun K u=>?_)
   go_simp
   go_at_call 89
   refine (a0.out _ (by with_reducible exact t.out)).mono ?_
   rintro e w3⟨u1,u2,rfl,U1,U2,M⟩;skip;have hb:=zbt t.out M;obtain⟨ts,s⟩:∃ y:Array Value,y=#[u1,u2,.int .i64 dl.g,J3 dl.cl]:=⟨_,rfl⟩;dsimp only;rw[<- s];have z:=J6 s;clear s;refine u _ _ hb ?_;clear u K;refine O.Z 16 (.tuple #[J4 ts,(.int .i64 de)]) 16 rfl rfl hb (fun a d=>?_) ?_
   ·go_simp
   refine O.Z 17 (J4 ts) 33 rfl rfl hb (fun a d=>?_) ?_
   ·go_simp
   refine O.Z 18 (.int .i64 de) 34 rfl rfl hb (fun a d=>?_) ?_
   ·go_simp
   have q2:ts.all (fun x=>x.oneCell')=true:=by rw[z.out];exact z2V U1 U2 _ _
   have R3:=U.out.over M;have n:=z6H (l:=dl) U1 U2 (by simp) hb R3
   rw[<- z.out]at n;refine O.z0n (i:=20) (by kernel_rfl) rfl rfl 48 _ _ rfl rfl m.heap.size 0 ts rfl rfl (R3.there 0 _ (by rw[z.out];exact Nat.le_of_eq rfl)) (by rw[z.out,z4M];rfl) q2 n.bel ?_
   refine O.Z 21 (.int .i64 de) 11 rfl rfl n.bel (fun a d=>?_) ?_
   ·go_simp
   refine wpAnyH_done (by kernel_rfl) ?_ _
   obtain⟨gn,N⟩:∃ y,y=m.heap.size:=⟨_,rfl⟩;rw[<- N]at n ⊢;simp only[O.pp,O.pb,O.pc];exact NoPanic.normal ⟨gn,ts,rfl,rfl,n⟩
 rintro gn ts w5 S5;have c5:=J6 S5;have f5:=S5.le;have e3:=S5.cat.lt;have C:=J6 (zbt H.out S5.bel);have c6:=J6 (B.out.over S5.bel);clear S5 r a0 t U B;have N:g≠gn:=by omega
 simp only[Exit.then];apply_assumption
 by_cases hE:de=0
 case neg =>
  replace HD:=J6 (HD.out.trans (if_neg hE));have f6:(de != 0)=true:=by simpa using hE
  go_wp2;go_ret;rw[HD.out];exact⟨rfl,.same (HC.out.over C.out) HI.out hg (Alt.of C.out)⟩
 subst hE;replace HD:=J6 (HD.out.trans (if_pos rfl));obtain⟨u1,u2,c7,c8,c9⟩:=c5.out.ex;have HU:=J6 (show _/\_/\_ from⟨c7,c8,c9⟩);clear c7 c8 c9;have a1:¬ New P w 0 g:=Pv.z0I hg d9
 have key:∀ b,b<w5.heap.size->(New P m 0 b/\b≠gn)->New P w 0 b:=fun b _ hb=>by
  rcases hb.1 with⟨hb,hl⟩ | hb
  ·by_cases hw:b<w.heap.size
   ·exact .inl ⟨hb,hw⟩
   ·exact .inr (by omega)
  ·exact .inr (by omega)
 have C5:=HC.out.over C.out;have I5:=HI.out.new hg (Alt.of (g:=g) C.out) 0;have R1:=HU.out.2.1.mono key;have R2:=HU.out.2.2.mono key;have y0:w5.cell? ⟨gy,0,none⟩=some (J2 (some ⟨g,68+i * 14+6,none⟩)):=c6.out.cell 0
 have l5:(z2i (J2 (some ⟨gn,0,none⟩))).run prog w5=.ok (J4 ts) w5:=by
  have h:=z5n c5.out.cat.range (by rw[HU.out.1];rfl)
  simpa using h
 have s5:=z8b ((q0B x v A dl u1 u2).there C5) rfl (by have h:=z2V R1 R2 dl.g dl.cl;simpa [lnL] using h)
 have Z7:=q6M I5 a1 C5 A R1 R2;change (z2K (J2 (some ⟨g,68+i * 14+6,none⟩)) (J4 #[u1,u2,.int .i64 dl.g,J3 dl.cl])).run prog w5=_ at s5;rw[<- HU.out.1]at s5;have HX:=J6 (z1b.trans (Alt.of (g:=g) C.out) Z7);have e4:=c6.out.lt;have e5:=C5.lt;clear Z7 C5 I5 R1 R2 key;generalize w5.setCells g (68+i * 14+6) (lnL dl u1 u2)=w7 at *;generalize z3g x i false dl=y7 at *
 go_upto_region 6 with fail
 clear y0 l5 s5;obtain⟨v7,C7,I7,A7⟩:=HX.out;have m7:=q9F ((z7P y7 v7 y7.p v7.p).part C7) (z0b _ _);have a2:=J6 (z7e y7.p v7.p (New P w 0) w7 (i:Int) I7.p (by rw[e0.out];exact HQ.out))
 have d0:=C7.lt;have H7:=J6 (show _/\_/\_ from⟨C7,I7,A7⟩);clear C7 I7 A7 HX;have d1:Hid (∀ (o:World) (Q:PrV),Bl w7 o->(prC (z0Q y7.p i) Q).all (·.oneCell')=true->∃ wS,wS=o.setCells g 2 (prC (z0Q y7.p i) Q).toList/\(z6x (J2 (some ⟨g,2,none⟩)) (J4 (prC (z0Q y7.p i) Q))).run prog o=.ok () wS):=fun o Q b8 h8=>⟨_,rfl,j7h ((z7P y7 v7 (z0Q y7.p i) Q).there (H7.out.1.over b8)) (z0b _ _) h8⟩;generalize Value.agg (prC y7.p v7.p)=V7 at m7 a2
 go_upto_region 7 with (go_at_call 90;refine a2.out.mono ?_;rintro e o⟨Q,rfl,U8,b8⟩;clear m7;obtain⟨wS,d2,e2⟩:=d1.out o Q b8 (z0Y U8);have d3:=J6 d2;clear d2)
 have Z8:=q0Z H7.out.2.1 a1 (Below.refl _ w7) H7.out.1 d0 b8 U8;rw[<- d3.out]at Z8;have d4:=z1b.trans H7.out.2.2 Z8;clear e2 d1 a2;obtain⟨E,R⟩:∃ E:Wo,E={ y7 with p:=z0Q y7.p i }:=⟨_,rfl⟩
 rw[<- R]at d4;clear Z8 d3 b8 U8;obtain⟨v8,C8,I8,A8⟩:=d4;generalize Value.agg (prC (z0Q y7.p i) Q)=V9;clear Q;generalize wS=o at *;have d5:E.c=y7.c:=by rw[R]
 have a3:=(Below.refl o.heap.size o).drew;have HS:(z5b (J2 (some ⟨g,99+i * 22,none⟩))).run prog o.drew=.ok (J4 (csC (E.c i) (v8.c i))) o.drew:=j2k ((z9W E v8 A (E.c i) (v8.c i)).part (C8.over a3)) (z0i _ _);have a4:=z7r (E.c i) (v8.c i) (New P w 0) o.drew ((I8.c i A).over a3);rw[d5]at HS a4;have a5:=J6 a4;have d6:=C8.lt;have H8:=J6 (show _/\_/\_/\_ from⟨C8,I8,A8,R⟩);clear C8 I8 A8 R a4 d5 a3;generalize Value.agg (csC (y7.c i) (v8.c i))=V8 at HS a5;refine O.z1l (c:=8) (S:=fun a=>a=o.drew) (by kernel_rfl) ?_
 have f:o.drew=o.drew:=rfl;refine O.z0v (i:=0) (v:=(J2 (some ⟨g,0,none⟩))) (some 51) rfl rfl (by kernel_rfl) (by kernel_rfl) (by kernel_rfl) (by decide) (fun _ _ _ h=>h) (Or.inl ⟨by rfl,?_⟩) f ?_
 ·intro a;go_simp
 refine O.z0v (i:=1) (v:=(.int .i64 (i:Int))) (some 52) rfl rfl (by kernel_rfl) (by kernel_rfl) (by kernel_rfl) (by decide) (fun _ _ _ h=>h) (Or.inl ⟨by rfl,?_⟩) f ?_
 ·intro a;go_simp
 refine O.z0v (i:=9) (v:=(J2 (some ⟨g,0,none⟩))) (some 60) rfl rfl (by kernel_rfl) (by kernel_rfl) (by kernel_rfl) (by decide) (fun _ _ _ h=>h) (Or.inl ⟨by rfl,?_⟩) f ?_
 ·intro a;go_simp
 refine O.z0v (i:=10) (v:=(J2 (some ⟨g,99,none⟩))) (some 61) rfl rfl (by kernel_rfl) (by kernel_rfl) (by kernel_rfl) (by decide) (fun _ _ _ h=>h) (Or.inl ⟨by rfl,?_⟩) f ?_
 ·intro a;go_simp
 refine O.Y 2 (J2 (some ⟨g,0,none⟩)) 53 rfl rfl f ?_ ?_
 ·rintro a rfl;go_simp
 refine O.Y 3 (.int .i64 (i:Int)) 54 rfl rfl f ?_ ?_
 ·rintro a rfl;go_simp
 refine O.Y 4 (J2 (some ⟨g,0,none⟩)) 55 rfl rfl f ?_ ?_
 ·rintro a rfl;go_simp
 refine O.Y 5 (J2 (some ⟨g,99,none⟩)) 56 rfl rfl f ?_ ?_
 ·rintro a rfl;go_simp
 refine O.Y 6 (J2 (some ⟨g,99+i * 22,none⟩)) 57 rfl rfl f ?_ ?_
 ·rintro a rfl;go_simp
 refine O.Y 7 V8 58 rfl rfl f ?_ ?_
 ·rintro a rfl;have l:=HS;go_simp
 refine O.z1X (by kernel_rfl) rfl (fun K u=>?_)
 refine z0B rfl ?_;go_simp;refine a5.out.mono ?_;rintro e w9⟨u9,rfl,U9,d7⟩;dsimp only;have b9:=(Below.refl o.heap.size o).drew.trans d7;obtain⟨t9,a6⟩:∃ y,y=csC (z1S (y7.c i)) u9:=⟨_,rfl⟩;rw[<- a6];have z:=J6 a6;clear a6;refine u _ _ ?_;clear u K;refine O.X 11 (J2 (some ⟨g,99+i * 22,none⟩)) 62 rfl rfl ?_ ?_
 ·intro a;go_simp
 have q1:(Option.map (fun x=>x.size) (prog.info? 75))=some t9.size:=by rw[z.out,z3q];rfl
 have q2:t9.all (fun x=>x.oneCell')=true:=by rw[z.out];exact z1E U9
 have q3:w9.there g (99+i * 22) t9.size:=by rw[z.out];exact by simpa using (z9W E v8 A (z1S (y7.c i)) u9).there (H8.out.1.over b9)
 refine O.z1Y (i:=12) (by kernel_rfl) rfl rfl 75 _ _ rfl rfl g (99+i * 22) t9 rfl rfl q3 q1 q2 ?_
 refine wpAny_done (by kernel_rfl) ?_ _
 have d8:CIn (New (New P w 0) o 0) w9 (z1S (y7.c i)) u9:=U9.mono fun b _ hb=>by
  rcases hb with⟨hb,hl⟩ | hb
  ·exact .inl ⟨hb,hl⟩
  ·exact .inr (by have:o.drew.heap.size=o.heap.size:=rfl;omega)
 have Z9:=q1Z H8.out.2.1 a1 (Below.refl _ o) H8.out.1 d6 b9 A d8;rw[<- z.out]at Z9;have HZ:=J6 (z1b.trans H8.out.2.2.1 Z9);generalize w9.setCells g (99+i * 22) t9.toList=w10 at *;have V:({ E with c:=z3y E.c i (z1S (y7.c i)) }:Wo)=j4V y7 i:=by rw[H8.out.2.2.2];rfl
 rw[V]at HZ;clear q1 q2 q3 HS f U9 d8 d7 a5 Z9 V;go_simp;go_wp2;go_ret;rw[HD.out];exact⟨rfl,HZ.out⟩
end Wd
end Go.Proofs.YtddlhnoedldidaaGreat
