/- Parts of the proof. -/
import Derived.Test.YtddlhnoedldidaaGreatML
import Derived.Test.YtddlhnoedldidaaGreatMK42
set_option maxRecDepth 100000
set_option maxHeartbeats 16000000
namespace Go.Proofs.YtddlhnoedldidaaGreat
open Go.Proofs.Tryz
open Value renaming int->J,slice->J1,pointer->J2,bool->J3,agg->J4
open IntKind renaming i64->I
open Obj renaming cells->J5
namespace Wd
open Go.RowKit Pv Kc
theorem q0Z{P:Nat->Prop}{w w0 d:World}{g:Nat}{x:Wo}{v:WoV}(m:WIn P w x v)(j:¬ P g)(hb:Bl w w0)(C0:CAt 97 w0 g (wdC x v))(n:g<w.heap.size)(b3:Bl w0 d){a:Pr}{u:PrV}{k:Nat}(hu:PIn (New P w0 k) d a u):z1b P w g { x with p:=a } (d.setCells g 2 (prC a u).toList):=by
 have f:=zbt hb b3;have l:Alt g w (d.setCells g 2 (prC a u).toList):=(Alt.of (g:=g) f).sets _ 2;refine⟨{ v with p:=u },(z7P x v a u).sets (C0.over b3),⟨?_,fun i o=>(m.c i o).q9E j l 0⟩,l⟩
 have r:=hb.size;refine (hu.sets (g:=g) (fun h=>?_) 2 _).mono fun b q h=>?_
 ·rcases h with⟨h,_⟩ | h
  ·exact j h
  ·omega
 ·rcases h with⟨h,hl⟩ | h
  ·by_cases e:b<w.heap.size
   ·exact .inl ⟨h,e⟩
   ·exact .inr (by omega)
  ·exact .inr (by omega)
theorem q1Z{P:Nat->Prop}{w w0 d:World}{g:Nat}{x:Wo}{v:WoV}(m:WIn P w x v)(f:¬ P g)(hb:Bl w w0)(C0:CAt 97 w0 g (wdC x v))(n:g<w.heap.size)(b3:Bl w0 d){i:Nat}(o:i<2){a:Cs}{u:CsV}{k:Nat}(hu:CIn (New P w0 k) d a u):z1b P w g { x with c:=z3y x.c i a } (d.setCells g (99+i * 22) (csC a u).toList):=by
 have j:=zbt hb b3;have l:Alt g w (d.setCells g (99+i * 22) (csC a u).toList):=(Alt.of (g:=g) j).sets _ _;refine⟨v.upd i u,(z9W x v o a u).sets (C0.over b3),⟨m.p.q9E f l 0,fun k' q=>?_⟩,l⟩;have s:=hb.size
 show CIn _ _ (z3y x.c i a k') (if k'=i then u else v.c k')
 unfold z3y
 by_cases e:k'=i
 ·rw[if_pos e,if_pos e];refine (hu.sets (g:=g) (fun h=>?_) _ _).mono fun b r h=>?_
  ·rcases h with⟨h,_⟩ | h
   ·exact f h
   ·omega
  ·rcases h with⟨h,hl⟩ | h
   ·by_cases e:b<w.heap.size
    ·exact .inl ⟨h,e⟩
    ·exact .inr (by omega)
   ·exact .inr (by omega)
 ·rw[if_neg e,if_neg e];exact (m.c k' q).q9E f l 0
attribute [local go_sem ↓] z1B z0H z0w z1w
theorem q4d(g:Nat)(x:Wo)(v:WoV)(P:Nat->Prop)(w:World)(c d o n:Int)(b f:Bool)(z:CAt 97 w g (wdC x v))(E:WIn P w x v)(T:¬ P g) :
  Calls prog 33 #[J2 (some ⟨g,0,none⟩),J4 #[J I 1,J I c,J I d,J I o,J I n,J3 b,J3 f]] w (q2s P w g ({ x with p:=(z3B x.p d o n).1 },(z3B x.p d o n).2)):=by
 have A:=z.lt;have U:=J6 z;have F:=J6 E;clear z E;have s:=J6 (fun (a:World) (hb:Bl w a)=>q4L x.p v.p P a d o n (F.out.p.over hb));generalize z3B x.p d o n=r at *;obtain⟨rp,B⟩:=r;dsimp only
 go_enter func33,ntmps33
 go_upto_region 4 with fail
 have G:=CAt.new 28 w #[J I 1,J I c,J I d,J I o,J I n,J3 b,J3 f];have b0:Bl w (w.alloc (J5 #[J I 1,J I c,J I d,J I o,J I n,J3 b,J3 f] 28)):=znw w _;generalize w.alloc (J5 #[J I 1,J I c,J I d,J I o,J I n,J3 b,J3 f] 28)=w0 at *;have k:=J6 (show _/\_/\_ from⟨G,b0,U.out.over b0⟩);clear G b0;have V:=k.out.1.lt;have W:=k.out.2.2.lt;have hd0:=(Below.refl w0.heap.size w0).drew
 have j:(z7u (J2 (some ⟨g,2,none⟩))).run prog w0.drew=.ok (J4 (prC x.p v.p)) w0.drew/\w0.drew.cell? ⟨w.heap.size,2,none⟩=some (J I d)/\w0.drew.cell? ⟨w.heap.size,3,none⟩=some (J I o)/\w0.drew.cell? ⟨w.heap.size,4,none⟩=some (J I n)/\w0.drew.cell? ⟨g,0,none⟩=some (J I x.ck):=
  ⟨q9F ((z7P x v x.p v.p).part (k.out.2.2.over hd0)) (z0b _ _),(k.out.1.over hd0).cell 2,(k.out.1.over hd0).cell 3,(k.out.1.over hd0).cell 4,(k.out.2.2.over hd0).cell 0⟩
 have t:=J6 (s.out w0.drew (zbt k.out.2.1 hd0));generalize Value.agg (prC x.p v.p)=V0 at j t;clear s hd0;refine O.z1l (c:=10) (S:=fun a=>a=w0.drew) (by kernel_rfl) ?_
 have m:w0.drew=w0.drew:=rfl;refine O.z0v (i:=0) (v:=(J2 (some ⟨g,2,none⟩))) (some 14) rfl rfl (by kernel_rfl) (by kernel_rfl) (by kernel_rfl) (by decide) (fun _ _ _ h=>h) (Or.inl ⟨by rfl,?_⟩) m ?_
 ·intro a;go_simp
 refine O.Y 1 (J2 (some ⟨g,2,none⟩)) 15 rfl rfl m ?_ ?_
 ·rintro a rfl;go_simp
 refine O.Y 2 (J2 (some ⟨g,2,none⟩)) 16 rfl rfl m ?_ ?_
 ·rintro a rfl;go_simp
 refine O.Y 3 V0 17 rfl rfl m ?_ ?_
 ·rintro a rfl;have l:=j.1;go_simp
 refine O.Y 4 (J2 (some ⟨w.heap.size,2,none⟩)) 18 rfl rfl m ?_ ?_
 ·rintro a rfl;go_simp
 refine O.Y 5 (J I d) 19 rfl rfl m ?_ ?_
 ·rintro a rfl;have l:=j.2.1;have H:=j.2.2.1;have L:=j.2.2.2.1;go_simp
 refine O.Y 6 (J2 (some ⟨w.heap.size,3,none⟩)) 20 rfl rfl m ?_ ?_
 ·rintro a rfl;go_simp
 refine O.Y 7 (J I o) 21 rfl rfl m ?_ ?_
 ·rintro a rfl;have l:=j.2.1;have H:=j.2.2.1;have L:=j.2.2.2.1;go_simp
 refine O.Y 8 (J2 (some ⟨w.heap.size,4,none⟩)) 22 rfl rfl m ?_ ?_
 ·rintro a rfl;go_simp
 refine O.Y 9 (J I n) 23 rfl rfl m ?_ ?_
 ·rintro a rfl;have l:=j.2.1;have H:=j.2.2.1;have L:=j.2.2.2.1;go_simp
 refine O.z1X (by kernel_rfl) rfl (fun K M=>?_)
 refine z0B rfl ?_;go_simp;refine t.out.mono ?_;rintro e N⟨Q,rfl,C,D⟩;dsimp only at C;dsimp only;have b3:=(Below.refl w0.heap.size w0).drew.trans D;obtain⟨ts,q⟩:∃ y,y=prC rp Q:=⟨_,rfl⟩;rw[<- q];have u:=J6 q;clear q;refine M _ _ ?_;clear M K;refine O.X 11 (.tuple #[J4 ts,J I B]) 13 rfl rfl ?_ ?_
 ·intro a;go_simp
 refine O.X 12 (J4 ts) 25 rfl rfl ?_ ?_
 ·intro a;go_simp
 refine O.X 13 (J I B) 26 rfl rfl ?_ ?_
 ·intro a;go_simp
 refine O.X 14 (J2 (some ⟨g,2,none⟩)) 27 rfl rfl ?_ ?_
 ·intro a;go_simp
 have q1:(Option.map (fun x=>x.size) (prog.info? 58))=some ts.size:=by rw[u.out,z2E];rfl
 have q2:ts.all (fun x=>x.oneCell')=true:=by rw[u.out];exact z0Y C
 have q3:N.there g 2 ts.size:=by rw[u.out];exact by simpa using (z7P x v rp Q).there (k.out.2.2.over b3)
 refine O.z1Y (i:=15) (by kernel_rfl) rfl rfl 58 _ _ rfl rfl g 2 ts rfl rfl q3 q1 q2 ?_
 refine O.X 16 (J I B) 4 rfl rfl ?_ ?_
 ·intro a;go_simp
 refine wpAny_done (by kernel_rfl) ?_ _
 have R:=J6 (q0Z F.out T k.out.2.1 k.out.2.2 A b3 C);rw[<- u.out]at R;generalize N.setCells g 2 ts.toList=w4 at *;clear q1 q2 q3 j m;go_simp;go_wp2;go_ret;exact⟨rfl,R.out⟩
theorem q4h(g:Nat)(x:Wo)(v:WoV)(P:Nat->Prop)(w:World)(c d o n:Int)(b f:Bool)(z:CAt 97 w g (wdC x v))(E:WIn P w x v)(T:¬ P g) :
  Calls prog 33 #[J2 (some ⟨g,0,none⟩),J4 #[J I 2,J I c,J I d,J I o,J I n,J3 b,J3 f]] w (q2s P w g ({ x with p:=(z2C x.p d o n x.ck).1 },(z2C x.p d o n x.ck).2)):=by
 have A:=z.lt;have U:=J6 z;have F:=J6 E;clear z E;have s:=J6 (fun (a:World) (hb:Bl w a)=>q4y x.p v.p P a d o n x.ck (F.out.p.over hb));generalize z2C x.p d o n x.ck=r at *;obtain⟨rp,B⟩:=r;dsimp only
 go_enter func33,ntmps33
 go_upto_region 6 with fail
 have G:=CAt.new 28 w #[J I 2,J I c,J I d,J I o,J I n,J3 b,J3 f];have b0:Bl w (w.alloc (J5 #[J I 2,J I c,J I d,J I o,J I n,J3 b,J3 f] 28)):=znw w _;generalize w.alloc (J5 #[J I 2,J I c,J I d,J I o,J I n,J3 b,J3 f] 28)=w0 at *;have m:=J6 (show _/\_/\_ from⟨G,b0,U.out.over b0⟩);clear G b0;have V:=m.out.1.lt;have W:=m.out.2.2.lt;have hd0:=(Below.refl w0.heap.size w0).drew
 have k:(z7u (J2 (some ⟨g,2,none⟩))).run prog w0.drew=.ok (J4 (prC x.p v.p)) w0.drew/\w0.drew.cell? ⟨w.heap.size,2,none⟩=some (J I d)/\w0.drew.cell? ⟨w.heap.size,3,none⟩=some (J I o)/\w0.drew.cell? ⟨w.heap.size,4,none⟩=some (J I n)/\w0.drew.cell? ⟨g,0,none⟩=some (J I x.ck):=
  ⟨q9F ((z7P x v x.p v.p).part (m.out.2.2.over hd0)) (z0b _ _),(m.out.1.over hd0).cell 2,(m.out.1.over hd0).cell 3,(m.out.1.over hd0).cell 4,(m.out.2.2.over hd0).cell 0⟩
 have t:=J6 (s.out w0.drew (zbt m.out.2.1 hd0));generalize Value.agg (prC x.p v.p)=V0 at k t;clear s hd0;refine O.z1l (c:=14) (S:=fun a=>a=w0.drew) (by kernel_rfl) ?_
 have j:w0.drew=w0.drew:=rfl;refine O.z0v (i:=0) (v:=(J2 (some ⟨g,2,none⟩))) (some 31) rfl rfl (by kernel_rfl) (by kernel_rfl) (by kernel_rfl) (by decide) (fun _ _ _ h=>h) (Or.inl ⟨by rfl,?_⟩) j ?_
 ·intro a;go_simp
 refine O.Y 1 (J2 (some ⟨g,2,none⟩)) 32 rfl rfl j ?_ ?_
 ·rintro a rfl;go_simp
 refine O.Y 2 (J2 (some ⟨g,2,none⟩)) 33 rfl rfl j ?_ ?_
 ·rintro a rfl;go_simp
 refine O.Y 3 V0 34 rfl rfl j ?_ ?_
 ·rintro a rfl;have l:=k.1;go_simp
 refine O.Y 4 (J2 (some ⟨w.heap.size,2,none⟩)) 35 rfl rfl j ?_ ?_
 ·rintro a rfl;go_simp
 refine O.Y 5 (J I d) 36 rfl rfl j ?_ ?_
 ·rintro a rfl;have l:=k.2.1;have H:=k.2.2.1;have L:=k.2.2.2.1;go_simp
 refine O.Y 6 (J2 (some ⟨w.heap.size,3,none⟩)) 37 rfl rfl j ?_ ?_
 ·rintro a rfl;go_simp
 refine O.Y 7 (J I o) 38 rfl rfl j ?_ ?_
 ·rintro a rfl;have l:=k.2.1;have H:=k.2.2.1;have L:=k.2.2.2.1;go_simp
 refine O.Y 8 (J2 (some ⟨w.heap.size,4,none⟩)) 39 rfl rfl j ?_ ?_
 ·rintro a rfl;go_simp
 refine O.Y 9 (J I n) 40 rfl rfl j ?_ ?_
 ·rintro a rfl;have l:=k.2.1;have H:=k.2.2.1;have L:=k.2.2.2.1;go_simp
 refine O.Y 10 (J2 (some ⟨g,0,none⟩)) 41 rfl rfl j ?_ ?_
 ·rintro a rfl;go_simp
 refine O.Y 11 (J2 (some ⟨g,0,none⟩)) 42 rfl rfl j ?_ ?_
 ·rintro a rfl;go_simp
 refine O.Y 12 (J2 (some ⟨g,0,none⟩)) 43 rfl rfl j ?_ ?_
 ·rintro a rfl;go_simp
 refine O.Y 13 (J I x.ck) 44 rfl rfl j ?_ ?_
 ·rintro a rfl;have l:=k.2.2.2.2;go_simp
 refine O.z1X (by kernel_rfl) rfl (fun K M=>?_)
 refine z0B rfl ?_;go_simp;refine t.out.mono ?_;rintro e N⟨Q,rfl,C,D⟩;dsimp only at C;dsimp only;have b3:=(Below.refl w0.heap.size w0).drew.trans D;obtain⟨ts,q⟩:∃ y,y=prC rp Q:=⟨_,rfl⟩;rw[<- q];have u:=J6 q;clear q;refine M _ _ ?_;clear M K;refine O.X 15 (.tuple #[J4 ts,J I B]) 30 rfl rfl ?_ ?_
 ·intro a;go_simp
 refine O.X 16 (J4 ts) 46 rfl rfl ?_ ?_
 ·intro a;go_simp
 refine O.X 17 (J I B) 47 rfl rfl ?_ ?_
 ·intro a;go_simp
 refine O.X 18 (J2 (some ⟨g,2,none⟩)) 48 rfl rfl ?_ ?_
 ·intro a;go_simp
 have q1:(Option.map (fun x=>x.size) (prog.info? 58))=some ts.size:=by rw[u.out,z2E];rfl
 have q2:ts.all (fun x=>x.oneCell')=true:=by rw[u.out];exact z0Y C
 have q3:N.there g 2 ts.size:=by rw[u.out];exact by simpa using (z7P x v rp Q).there (m.out.2.2.over b3)
 refine O.z1Y (i:=19) (by kernel_rfl) rfl rfl 58 _ _ rfl rfl g 2 ts rfl rfl q3 q1 q2 ?_
 refine O.X 20 (J I B) 4 rfl rfl ?_ ?_
 ·intro a;go_simp
 refine wpAny_done (by kernel_rfl) ?_ _
 have R:=J6 (q0Z F.out T m.out.2.1 m.out.2.2 A b3 C);rw[<- u.out]at R;generalize N.setCells g 2 ts.toList=w4 at *;clear q1 q2 q3 k j;go_simp;go_wp2;go_ret;exact⟨rfl,R.out⟩
theorem q9y(g:Nat)(x:Wo)(v:WoV)(P:Nat->Prop)(w:World)(c d k n:Int)(b f:Bool)(z:CAt 97 w g (wdC x v))(E:WIn P w x v)(Q:¬ P g) :
  Calls prog 33 #[J2 (some ⟨g,0,none⟩),J4 #[J I 13,J I c,J I d,J I k,J I n,J3 b,J3 f]] w (q2s P w g ({ x with p:=(z6n x.p k n).1 },(z6n x.p k n).2)):=by
 have A:=z.lt;have R:=J6 z;have F:=J6 E;clear z E;have s:=J6 (fun (a:World) (hb:Bl w a)=>q6a x.p v.p P a k n (F.out.p.over hb));generalize z6n x.p k n=r at *;obtain⟨rp,B⟩:=r;dsimp only
 go_enter func33,ntmps33
 go_upto_region 10 with fail
 have G:=CAt.new 28 w #[J I 13,J I c,J I d,J I k,J I n,J3 b,J3 f];have b0:Bl w (w.alloc (J5 #[J I 13,J I c,J I d,J I k,J I n,J3 b,J3 f] 28)):=znw w _;generalize w.alloc (J5 #[J I 13,J I c,J I d,J I k,J I n,J3 b,J3 f] 28)=w0 at *;have j:=J6 (show _/\_/\_ from⟨G,b0,R.out.over b0⟩);clear G b0;have T:=j.out.1.lt;have U:=j.out.2.2.lt;have hd0:=(Below.refl w0.heap.size w0).drew
 have m:(z7u (J2 (some ⟨g,2,none⟩))).run prog w0.drew=.ok (J4 (prC x.p v.p)) w0.drew/\w0.drew.cell? ⟨w.heap.size,2,none⟩=some (J I d)/\w0.drew.cell? ⟨w.heap.size,3,none⟩=some (J I k)/\w0.drew.cell? ⟨w.heap.size,4,none⟩=some (J I n)/\w0.drew.cell? ⟨g,0,none⟩=some (J I x.ck):=
  ⟨q9F ((z7P x v x.p v.p).part (j.out.2.2.over hd0)) (z0b _ _),(j.out.1.over hd0).cell 2,(j.out.1.over hd0).cell 3,(j.out.1.over hd0).cell 4,(j.out.2.2.over hd0).cell 0⟩
 have t:=J6 (s.out w0.drew (zbt j.out.2.1 hd0));generalize Value.agg (prC x.p v.p)=V0 at m t;clear s hd0;refine O.z1l (c:=8) (S:=fun a=>a=w0.drew) (by kernel_rfl) ?_
 have o:w0.drew=w0.drew:=rfl;refine O.z0v (i:=0) (v:=(J2 (some ⟨g,2,none⟩))) (some 67) rfl rfl (by kernel_rfl) (by kernel_rfl) (by kernel_rfl) (by decide) (fun _ _ _ h=>h) (Or.inl ⟨by rfl,?_⟩) o ?_
 ·intro a;go_simp
 refine O.Y 1 (J2 (some ⟨g,2,none⟩)) 68 rfl rfl o ?_ ?_
 ·rintro a rfl;go_simp
 refine O.Y 2 (J2 (some ⟨g,2,none⟩)) 69 rfl rfl o ?_ ?_
 ·rintro a rfl;go_simp
 refine O.Y 3 V0 70 rfl rfl o ?_ ?_
 ·rintro a rfl;have l:=m.1;go_simp
 refine O.Y 4 (J2 (some ⟨w.heap.size,3,none⟩)) 71 rfl rfl o ?_ ?_
 ·rintro a rfl;go_simp
 refine O.Y 5 (J I k) 72 rfl rfl o ?_ ?_
 ·rintro a rfl;have l:=m.2.1;have V:=m.2.2.1;have W:=m.2.2.2.1;go_simp
 refine O.Y 6 (J2 (some ⟨w.heap.size,4,none⟩)) 73 rfl rfl o ?_ ?_
 ·rintro a rfl;go_simp
 refine O.Y 7 (J I n) 74 rfl rfl o ?_ ?_
 ·rintro a rfl;have l:=m.2.1;have V:=m.2.2.1;have W:=m.2.2.2.1;go_simp
 refine O.z1X (by kernel_rfl) rfl (fun K H=>?_)
 refine z0B rfl ?_;go_simp;refine t.out.mono ?_;rintro e L⟨M,rfl,C,D⟩;dsimp only at C;dsimp only;have b3:=(Below.refl w0.heap.size w0).drew.trans D;obtain⟨ts,q⟩:∃ y,y=prC rp M:=⟨_,rfl⟩;rw[<- q];have u:=J6 q;clear q;refine H _ _ ?_;clear H K;refine O.X 9 (.tuple #[J4 ts,J I B]) 66 rfl rfl ?_ ?_
 ·intro a;go_simp
 refine O.X 10 (J4 ts) 76 rfl rfl ?_ ?_
 ·intro a;go_simp
 refine O.X 11 (J I B) 77 rfl rfl ?_ ?_
 ·intro a;go_simp
 refine O.X 12 (J2 (some ⟨g,2,none⟩)) 78 rfl rfl ?_ ?_
 ·intro a;go_simp
 have q1:(Option.map (fun x=>x.size) (prog.info? 58))=some ts.size:=by rw[u.out,z2E];rfl
 have q2:ts.all (fun x=>x.oneCell')=true:=by rw[u.out];exact z0Y C
 have q3:L.there g 2 ts.size:=by rw[u.out];exact by simpa using (z7P x v rp M).there (j.out.2.2.over b3)
 refine O.z1Y (i:=13) (by kernel_rfl) rfl rfl 58 _ _ rfl rfl g 2 ts rfl rfl q3 q1 q2 ?_
 refine O.X 14 (J I B) 4 rfl rfl ?_ ?_
 ·intro a;go_simp
 refine wpAny_done (by kernel_rfl) ?_ _
 have N:=J6 (q0Z F.out Q j.out.2.1 j.out.2.2 A b3 C);rw[<- u.out]at N;generalize L.setCells g 2 ts.toList=w4 at *;clear q1 q2 q3 m o;go_simp;go_wp2;go_ret;exact⟨rfl,N.out⟩
theorem q1X(g:Nat)(x:Wo)(v:WoV)(P:Nat->Prop)(w:World)(c d j n:Int)(b f:Bool)(L:CAt 97 w g (wdC x v))(Q:WIn P w x v)(R:¬ P g) :
  Calls prog 33 #[J2 (some ⟨g,0,none⟩),J4 #[J I 3,J I c,J I d,J I j,J I n,J3 b,J3 f]] w (q2s P w g ({ x with p:={ x.p with s:=(z1G x.p.s j).1 } },(z1G x.p.s j).2)):=by
 have Z:=L.lt;have HC:=J6 L;have D:=J6 Q;clear L Q;have A:=J6 (fun (a:World) (hb:Bl w a)=>q6D (D.out.p.ws.over hb) j);have T:=J6 (j7S x.p.s j);generalize z1G x.p.s j=r at *;obtain⟨rp,M⟩:=r;dsimp only at T;dsimp only
 go_enter func33,ntmps33
 go_upto_region 8 with fail
 have U:=CAt.new 28 w #[J I 3,J I c,J I d,J I j,J I n,J3 b,J3 f];have b0:Bl w (w.alloc (J5 #[J I 3,J I c,J I d,J I j,J I n,J3 b,J3 f] 28)):=znw w _;generalize w.alloc (J5 #[J I 3,J I c,J I d,J I j,J I n,J3 b,J3 f] 28)=w0 at *;have m:=J6 (show _/\_/\_ from⟨U,b0,HC.out.over b0⟩);clear U b0;have a0:=m.out.1.lt;have a1:=m.out.2.2.lt;have hd0:=(Below.refl w0.heap.size w0).drew;have t:=J6 (fun (s:St) (u:Value)=>(z7P x v { x.p with s:=s } { v.p with ws:=u }).nest (j8A x.p v.p s u))
 have E:(z8i (J2 (some ⟨g,2+2,none⟩))).run prog w0.drew=.ok (J4 (stC x.p.s v.p.ws)) w0.drew/\w0.drew.cell? ⟨w.heap.size,3,none⟩=some (J I j):=
  ⟨j8E ((t.out x.p.s v.p.ws).part (m.out.2.2.over hd0)) (z0f _ _),(m.out.1.over hd0).cell 3⟩
 have B:=J6 (A.out w0.drew (zbt m.out.2.1 hd0));generalize Value.agg (stC x.p.s v.p.ws)=V0 at E B;clear A hd0;refine O.z1l (c:=7) (S:=fun a=>a=w0.drew) (by kernel_rfl) ?_
 have o:w0.drew=w0.drew:=rfl;refine O.z0v (i:=0) (v:=(J2 (some ⟨g,2,none⟩))) (some 52) rfl rfl (by kernel_rfl) (by kernel_rfl) (by kernel_rfl) (by decide) (fun _ _ _ h=>h) (Or.inl ⟨by rfl,?_⟩) o ?_
 ·intro a;go_simp
 refine O.Y 1 (J2 (some ⟨g,2,none⟩)) 53 rfl rfl o ?_ ?_
 ·rintro a rfl;go_simp
 refine O.Y 2 (J2 (some ⟨g,2,none⟩)) 54 rfl rfl o ?_ ?_
 ·rintro a rfl;go_simp
 refine O.Y 3 (J2 (some ⟨g,2+2,none⟩)) 55 rfl rfl o ?_ ?_
 ·rintro a rfl;go_simp
 refine O.Y 4 V0 56 rfl rfl o ?_ ?_
 ·rintro a rfl;have l:=E.1;go_simp
 refine O.Y 5 (J2 (some ⟨w.heap.size,3,none⟩)) 57 rfl rfl o ?_ ?_
 ·rintro a rfl;go_simp
 refine O.Y 6 (J I j) 58 rfl rfl o ?_ ?_
 ·rintro a rfl;have l:=E.2;go_simp
 refine O.z1X (by kernel_rfl) rfl (fun K V=>?_)
 refine z0B rfl ?_;go_simp;refine B.out.mono ?_;rintro e F⟨rfl,N⟩;dsimp only;have b3:=(Below.refl w0.heap.size w0).drew.trans N;obtain⟨ts,z⟩:∃ y,y=stC rp v.p.ws:=⟨_,rfl⟩;rw[<- z];have G:=J6 z;clear z;refine V _ _ ?_;clear V K;refine O.X 8 (.tuple #[J4 ts,J I M]) 51 rfl rfl ?_ ?_
 ·intro a;go_simp
 refine O.X 9 (J4 ts) 60 rfl rfl ?_ ?_
 ·intro a;go_simp
 refine O.X 10 (J I M) 61 rfl rfl ?_ ?_
 ·intro a;go_simp
 refine O.X 11 (J2 (some ⟨g,2,none⟩)) 62 rfl rfl ?_ ?_
 ·intro a;go_simp
 refine O.X 12 (J2 (some ⟨g,2+2,none⟩)) 63 rfl rfl ?_ ?_
 ·intro a;go_simp
 have q1:(Option.map (fun x=>x.size) (prog.info? 43))=some ts.size:=by rw[G.out,z0x];rfl
 have q2:ts.all (fun x=>x.oneCell')=true:=by rw[G.out];exact z6r _ D.out.p.ws.one'
 have q3:F.there g (2+2) ts.size:=by rw[G.out];exact by simpa using (t.out rp v.p.ws).there (m.out.2.2.over b3)
 refine O.z1Y (i:=13) (by kernel_rfl) rfl rfl 43 _ _ rfl rfl g (2+2) ts rfl rfl q3 q1 q2 ?_
 refine O.X 14 (J I M) 4 rfl rfl ?_ ?_
 ·intro a;go_simp
 refine wpAny_done (by kernel_rfl) ?_ _
 have C:=zbt m.out.2.1 b3;have H:Alt g w (F.setCells g (2+2) ts.toList):=(Alt.of (g:=g) C).sets _ _;have k:=D.out.p.q9E R H 0;have HZ:Hid (z1b P w g { x with p:={ x.p with s:=rp } } (F.setCells g (2+2) ts.toList)):=⟨{ v with p:={ v.p with ws:=v.p.ws } },by rw[G.out];exact (t.out rp v.p.ws).sets (m.out.2.2.over b3),⟨⟨by show Rep _ _ _ _ _ (wsL rp.W);rw[T.out];exact k.ws,k.set,k.lk,k.q⟩,fun i hi=>(D.out.c i hi).q9E R H 0⟩,H⟩
 generalize F.setCells g (2+2) ts.toList=w4 at *;clear q1 q2 q3 E o k H;go_simp;go_wp2;go_ret;exact⟨rfl,HZ.out⟩
theorem z6P(g:Nat)(x:Wo)(v:WoV)(P:Nat->Prop)(w:World)(d:Dd)(a:d.k=1∨d.k=2∨d.k=3∨d.k=13)(e:CAt 97 w g (wdC x v))(h:WIn P w x v)(i:¬ P g) :
  Calls prog 33 #[J2 (some ⟨g,0,none⟩),J4 (ddC d)] w (q2s P w g (atP x d)):=by
 obtain⟨k,c,d,j,n,b,f⟩:=d
 rcases a with a | a | a | a <;> (change k=_ at a;subst a)
 ·exact q4d g x v P w c d j n b f e h i
 ·exact q4h g x v P w c d j n b f e h i
 ·exact q1X g x v P w c d j n b f e h i
 ·exact q9y g x v P w c d j n b f e h i
end Wd
end Go.Proofs.YtddlhnoedldidaaGreat
