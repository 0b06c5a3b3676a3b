/- Parts of the proof. -/
import Derived.Test.YtddlhnoedldidaaGreatML
import Derived.Test.YtddlhnoedldidaaGreatMK5
import Derived.Test.YtddlhnoedldidaaGreatMK45
set_option maxRecDepth 100000
set_option maxHeartbeats 16000000
namespace Go.Proofs.YtddlhnoedldidaaGreat
open Go.Proofs.Tryz
open Value renaming int->J,slice->J1,pointer->J2,bool->J3,agg->J4
open IntKind renaming i64->I
open Obj renaming cells->J5
namespace Wd
open Go.RowKit Pv Kc
attribute [local go_sem ↓] z0H z0w z1r z1j
theorem q4E(g:Nat)(x:Wo)(v:WoV)(P:Nat->Prop)(w:World)(i:Nat)(s:ByteArray)(f:CAt 97 w g (wdC x v))(h:WIn P w x v)(z:¬ P g)(o:s.size<=maxLen)(a:x.p.q.length * 88<=140737488351232) :
  Calls prog 88 #[J2 (some ⟨g,0,none⟩),J I (i:Int),J3 true,.string s] w (q2s P w g (z2S x i true s)):=by
 have t:z2S x i true s=({ x with p:=(z4H x.p i (Cd.bs s)).1 },(z4H x.p i (Cd.bs s)).2):=rfl
 rw[t];clear t;have j:=f.lt;have A:=q9F ((z7P x v x.p v.p).part f) (z0b _ _);have k:=J6 (q8z x.p v.p P w (i:Int) s h.p o a);have B:=J6 h;have u:=J6 f;clear f h o a;generalize z4H x.p i (Cd.bs s)=r at *
 go_enter func88,ntmps88
 have l:Hid (∀ (c:World) (b:PrV),Bl w c->(prC r.1 b).all (·.oneCell')=true->∃ m,m=c.setCells g 2 (prC r.1 b).toList/\(z6x (J2 (some ⟨g,2,none⟩)) (J4 (prC r.1 b))).run prog c=.ok () m):=fun c b b3 h3=>⟨_,rfl,j7h ((z7P x v r.1 b).there (u.out.over b3)) (z0b _ _) h3⟩
 go_wp2_with (go_at_call 126;refine k.out.mono ?_;rintro e c⟨b,rfl,y,b3⟩;clear A;obtain⟨m,d,C⟩:=l.out c b b3 (z0Y y);have n:=J6 d;clear d)
 go_ret;refine⟨rfl,?_⟩;rw[n.out];exact q0Z B.out z (Below.refl _ _) u.out j b3 y
theorem q1Y(g:Nat)(x:Wo)(v:WoV)(P:Nat->Prop)(w:World)(i:Nat)(m:i<2)(s:ByteArray)(n:CAt 97 w g (wdC x v))(p:WIn P w x v)(M:¬ P g)(D:s.size<=maxLen)(j:(x.c i).pd.length * 80<=140737488351232) :
  Calls prog 88 #[J2 (some ⟨g,0,none⟩),J I (i:Int),J3 false,.string s] w (q2s P w g (z2S x i false s)):=by
 have E:z2S x i false s=({ x with c:=z3y x.c i (z4F (x.c i) (Cd.bs s)).1 },(z4F (x.c i) (Cd.bs s)).2):=rfl
 rw[E];clear E;obtain⟨w0,b⟩:∃ y,y=w:=⟨_,rfl⟩;have q:=n.lt;have N:(i:Int)<2:=by omega
 have Q:(0:Int)<=(i:Int):=by omega
 have k:=J6 (q9B (x.c i) (v.c i) P w0.drew s (by rw[b];exact (p.c i m).over (Below.refl _ w).drew) D j)
 have t:(z5b (J2 (some ⟨g,99+i * 22,none⟩))).run prog w0.drew=.ok (J4 (csC (x.c i) (v.c i))) w0.drew:=by rw[b];exact j2k ((z9W x v m (x.c i) (v.c i)).part (n.over (Below.refl w.heap.size w).drew)) (z0i _ _)
 have u:Hid (True/\Bl w w0/\CAt 97 w0 g (wdC x v)):=by rw[b];exact⟨trivial,Below.refl _ _,n⟩
 have R:=J6 p;clear n p D j;generalize z4F (x.c i) (Cd.bs s)=r at *;obtain⟨rc,z⟩:=r;dsimp only;generalize Value.agg (csC (x.c i) (v.c i))=V0 at t k
 go_enter func88,ntmps88
 rw[<- b];have A:=J6 b;clear b
 go_upto_region 3 with fail
 refine O.z1l (c:=9) (S:=fun a=>a=w0.drew) (by kernel_rfl) ?_
 have d:w0.drew=w0.drew:=rfl;refine O.z0v (i:=0) (v:=(J2 (some ⟨g,0,none⟩))) (some 24) rfl rfl (by kernel_rfl) (by kernel_rfl) (by kernel_rfl) (by decide) (fun _ _ _ h=>h) (Or.inl ⟨by rfl,?_⟩) d ?_
 ·intro a;go_simp
 refine O.z0v (i:=1) (v:=(J I (i:Int))) (some 25) rfl rfl (by kernel_rfl) (by kernel_rfl) (by kernel_rfl) (by decide) (fun _ _ _ h=>h) (Or.inl ⟨by rfl,?_⟩) d ?_
 ·intro a;go_simp
 refine O.z0v (i:=13) (v:=(J2 (some ⟨g,0,none⟩))) (some 36) rfl rfl (by kernel_rfl) (by kernel_rfl) (by kernel_rfl) (by decide) (fun _ _ _ h=>h) (Or.inl ⟨by rfl,?_⟩) d ?_
 ·intro a;go_simp
 refine O.z0v (i:=14) (v:=(J2 (some ⟨g,99,none⟩))) (some 37) rfl rfl (by kernel_rfl) (by kernel_rfl) (by kernel_rfl) (by decide) (fun _ _ _ h=>h) (Or.inl ⟨by rfl,?_⟩) d ?_
 ·intro a;go_simp
 refine O.Y 2 (J2 (some ⟨g,0,none⟩)) 26 rfl rfl d ?_ ?_
 ·rintro a rfl;go_simp
 refine O.Y 3 (J I (i:Int)) 27 rfl rfl d ?_ ?_
 ·rintro a rfl;go_simp
 refine O.Y 4 (J2 (some ⟨g,0,none⟩)) 28 rfl rfl d ?_ ?_
 ·rintro a rfl;go_simp
 refine O.Y 5 (J2 (some ⟨g,99,none⟩)) 29 rfl rfl d ?_ ?_
 ·rintro a rfl;go_simp
 refine O.Y 6 (J2 (some ⟨g,99+i * 22,none⟩)) 30 rfl rfl d ?_ ?_
 ·rintro a rfl;go_simp
 refine O.Y 7 V0 31 rfl rfl d ?_ ?_
 ·rintro a rfl;have l:=t;go_simp
 refine O.Y 8 (.string s) 32 rfl rfl d ?_ ?_
 ·rintro a rfl;go_simp
 refine O.z1X (by kernel_rfl) rfl (fun K F=>?_)
 refine z0B rfl ?_;go_simp;refine k.out.mono ?_;rintro e G⟨H,rfl,B,C⟩;dsimp only at B;dsimp only;have b3:=(Below.refl w0.heap.size w0).drew.trans C;obtain⟨ts,f⟩:∃ y,y=csC rc H:=⟨_,rfl⟩;rw[<- f];have o:=J6 f;clear f;refine F _ _ ?_;clear F K;refine O.X 10 (.tuple #[J4 ts,J I z]) 23 rfl rfl ?_ ?_
 ·intro a;go_simp
 refine O.X 11 (J4 ts) 34 rfl rfl ?_ ?_
 ·intro a;go_simp
 refine O.X 12 (J I z) 35 rfl rfl ?_ ?_
 ·intro a;go_simp
 refine O.X 15 (J2 (some ⟨g,99+i * 22,none⟩)) 38 rfl rfl ?_ ?_
 ·intro a;go_simp
 have q1:(Option.map (fun x=>x.size) (prog.info? 75))=some ts.size:=by rw[o.out,z3q];rfl
 have q2:ts.all (fun x=>x.oneCell')=true:=by rw[o.out];exact z1E B
 have q3:G.there g (99+i * 22) ts.size:=by rw[o.out];exact by simpa using (z9W x v m rc H).there (u.out.2.2.over b3)
 refine O.z1Y (i:=16) (by kernel_rfl) rfl rfl 75 _ _ rfl rfl g (99+i * 22) ts rfl rfl q3 q1 q2 ?_
 refine O.X 17 (J I z) 8 rfl rfl ?_ ?_
 ·intro a;go_simp
 refine wpAny_done (by kernel_rfl) ?_ _
 have L:=J6 (q1Z R.out M u.out.2.1 u.out.2.2 q b3 m B);rw[<- o.out]at L;generalize G.setCells g (99+i * 22) ts.toList=w4 at *;clear q1 q2 q3 t d;go_simp;go_wp2;go_ret;exact⟨rfl,by rw[A.out];exact L.out⟩
theorem q0R(g:Nat)(x:Wo)(v:WoV)(P:Nat->Prop)(w:World)(i:Nat)(k:i<2)(b:Bool)(s:ByteArray)(e:CAt 97 w g (wdC x v))(f:WIn P w x v)(h:¬ P g)(j:s.size<=maxLen)(a:x.p.q.length * 88<=140737488351232)(d:(x.c i).pd.length * 80<=140737488351232) :
  Calls prog 88 #[J2 (some ⟨g,0,none⟩),J I (i:Int),J3 b,.string s] w (q2s P w g (z2S x i b s)):=by
 cases b
 ·exact q1Y g x v P w i k s e f h j d
 ·exact q4E g x v P w i s e f h j a
theorem q7y(g:Nat)(x:Wo)(v:WoV)(P:Nat->Prop)(w:World)(i:Nat)(u:i<2)(d m n:Int)(b f:Bool)(B:CAt 97 w g (wdC x v))(L:WIn P w x v)(V:¬ P g) :
  Calls prog 65 #[J2 (some ⟨g,0,none⟩),J4 #[J I 11,J I (i:Int),J I d,J I m,J I n,J3 b,J3 f]] w (q2s P w g ({ x with c:=z3y x.c i (z4T (x.c i) m x.ck).1 },(z4T (x.c i) m x.ck).2)):=by
 have C:=B.lt;have W:(i:Int)<2:=by omega
 have Z:(0:Int)<=(i:Int):=by omega
 have HC:=J6 B;have M:=J6 L;clear B L;have q:=J6 (fun (a:World) (hb:Bl w a)=>q9c (x.c i) (v.c i) P a m x.ck ((M.out.c i u).over hb));generalize z4T (x.c i) m x.ck=r at *;obtain⟨rc,D⟩:=r;dsimp only
 go_enter func65,ntmps65
 go_upto_region 1 with fail
 have z:=CAt.new 28 w #[J I 11,J I (i:Int),J I d,J I m,J I n,J3 b,J3 f];have b0:Bl w (w.alloc (J5 #[J I 11,J I (i:Int),J I d,J I m,J I n,J3 b,J3 f] 28)):=znw w _;generalize w.alloc (J5 #[J I 11,J I (i:Int),J I d,J I m,J I n,J3 b,J3 f] 28)=wa at *;have E:wa.cell? ⟨w.heap.size,1,none⟩=some (J I (i:Int)):=z.cell 1;have F:=z.lt;have o:=J6 (show _/\_ from⟨z,b0⟩);clear z b0;go_quiet (fail);simp only[Exit.then];apply_assumption;have N:=o.out.1.over (below_drewN (Below.refl wa.heap.size wa) nq);have b1:=below_drewN o.out.2 nq;clear E o F;generalize wa.drewN nq=w0 at *;have j:=J6 (show _/\_/\_ from⟨N,b1,HC.out.over b1⟩);clear N b1;have a0:=j.out.1.lt;have a1:=j.out.2.2.lt;have k0:w0.cell? ⟨w.heap.size,0,none⟩=some (J I 11):=j.out.1.cell 0
 go_upto_region 3 with fail
 clear k0;have hd0:=(Below.refl w0.heap.size w0).drew
 have s:(z5b (J2 (some ⟨g,99+i * 22,none⟩))).run prog w0.drew=.ok (J4 (csC (x.c i) (v.c i))) w0.drew/\w0.drew.cell? ⟨w.heap.size,3,none⟩=some (J I m)/\w0.drew.cell? ⟨w.heap.size,4,none⟩=some (J I n)/\w0.drew.cell? ⟨g,0,none⟩=some (J I x.ck):=
  ⟨j2k ((z9W x v u (x.c i) (v.c i)).part (j.out.2.2.over hd0)) (z0i _ _),(j.out.1.over hd0).cell 3,(j.out.1.over hd0).cell 4,(j.out.2.2.over hd0).cell 0⟩
 have t:=J6 (q.out w0.drew (zbt j.out.2.1 hd0));generalize Value.agg (csC (x.c i) (v.c i))=V0 at s t;clear q hd0;refine O.z1l (c:=10) (S:=fun a=>a=w0.drew) (by kernel_rfl) ?_
 have k:w0.drew=w0.drew:=rfl;refine O.z0v (i:=0) (v:=(J2 (some ⟨g,99+i * 22,none⟩))) (some 16) rfl rfl (by kernel_rfl) (by kernel_rfl) (by kernel_rfl) (by decide) (fun _ _ _ h=>h) (Or.inl ⟨by rfl,?_⟩) k ?_
 ·intro a;go_simp
 refine O.Y 1 (J2 (some ⟨g,99+i * 22,none⟩)) 17 rfl rfl k ?_ ?_
 ·rintro a rfl;go_simp
 refine O.Y 2 (J2 (some ⟨g,99+i * 22,none⟩)) 18 rfl rfl k ?_ ?_
 ·rintro a rfl;go_simp
 refine O.Y 3 V0 19 rfl rfl k ?_ ?_
 ·rintro a rfl;have l:=s.1;go_simp
 refine O.Y 4 (J2 (some ⟨w.heap.size,3,none⟩)) 20 rfl rfl k ?_ ?_
 ·rintro a rfl;go_simp
 refine O.Y 5 (J I m) 21 rfl rfl k ?_ ?_
 ·rintro a rfl;have l:=s.2.1;go_simp
 refine O.Y 6 (J2 (some ⟨g,0,none⟩)) 22 rfl rfl k ?_ ?_
 ·rintro a rfl;go_simp
 refine O.Y 7 (J2 (some ⟨g,0,none⟩)) 23 rfl rfl k ?_ ?_
 ·rintro a rfl;go_simp
 refine O.Y 8 (J2 (some ⟨g,0,none⟩)) 24 rfl rfl k ?_ ?_
 ·rintro a rfl;go_simp
 refine O.Y 9 (J I x.ck) 25 rfl rfl k ?_ ?_
 ·rintro a rfl;have l:=s.2.2.2;go_simp
 refine O.z1X (by kernel_rfl) rfl (fun K Q=>?_)
 refine z0B rfl ?_;go_simp;refine t.out.mono ?_;rintro e R⟨T,rfl,G,H⟩;dsimp only at G;dsimp only;have b3:=(Below.refl w0.heap.size w0).drew.trans H;obtain⟨ts,p⟩:∃ y,y=csC rc T:=⟨_,rfl⟩;rw[<- p];have A:=J6 p;clear p;refine Q _ _ ?_;clear Q K;refine O.X 11 (.tuple #[J4 ts,J I D]) 15 rfl rfl ?_ ?_
 ·intro a;go_simp
 refine O.X 12 (J4 ts) 27 rfl rfl ?_ ?_
 ·intro a;go_simp
 refine O.X 13 (J I D) 28 rfl rfl ?_ ?_
 ·intro a;go_simp
 refine O.X 14 (J2 (some ⟨g,99+i * 22,none⟩)) 29 rfl rfl ?_ ?_
 ·intro a;go_simp
 have q1:(Option.map (fun x=>x.size) (prog.info? 75))=some ts.size:=by rw[A.out,z3q];rfl
 have q2:ts.all (fun x=>x.oneCell')=true:=by rw[A.out];exact z1E G
 have q3:R.there g (99+i * 22) ts.size:=by rw[A.out];exact by simpa using (z9W x v u rc T).there (j.out.2.2.over b3)
 refine O.z1Y (i:=15) (by kernel_rfl) rfl rfl 75 _ _ rfl rfl g (99+i * 22) ts rfl rfl q3 q1 q2 ?_
 refine O.X 16 (J I D) 4 rfl rfl ?_ ?_
 ·intro a;go_simp
 refine wpAny_done (by kernel_rfl) ?_ _
 have U:=J6 (q1Z M.out V j.out.2.1 j.out.2.2 C b3 u G);rw[<- A.out]at U;generalize R.setCells g (99+i * 22) ts.toList=w4 at *;clear q1 q2 q3 s k;go_simp;go_wp2;go_ret;exact⟨rfl,U.out⟩
theorem q1v(g:Nat)(x:Wo)(v:WoV)(P:Nat->Prop)(w:World)(i:Nat)(u:i<2)(d m n:Int)(b f:Bool)(B:CAt 97 w g (wdC x v))(L:WIn P w x v)(V:¬ P g) :
  Calls prog 65 #[J2 (some ⟨g,0,none⟩),J4 #[J I 12,J I (i:Int),J I d,J I m,J I n,J3 b,J3 f]] w (q2s P w g ({ x with c:=z3y x.c i (z2f (x.c i) m n x.ck).1 },(z2f (x.c i) m n x.ck).2)):=by
 have C:=B.lt;have W:(i:Int)<2:=by omega
 have Z:(0:Int)<=(i:Int):=by omega
 have HC:=J6 B;have M:=J6 L;clear B L;have s:=J6 (fun (a:World) (hb:Bl w a)=>q2t (x.c i) (v.c i) P a m n x.ck ((M.out.c i u).over hb));generalize z2f (x.c i) m n x.ck=r at *;obtain⟨rc,D⟩:=r;dsimp only
 go_enter func65,ntmps65
 go_upto_region 1 with fail
 have z:=CAt.new 28 w #[J I 12,J I (i:Int),J I d,J I m,J I n,J3 b,J3 f];have b0:Bl w (w.alloc (J5 #[J I 12,J I (i:Int),J I d,J I m,J I n,J3 b,J3 f] 28)):=znw w _;generalize w.alloc (J5 #[J I 12,J I (i:Int),J I d,J I m,J I n,J3 b,J3 f] 28)=wa at *;have E:wa.cell? ⟨w.heap.size,1,none⟩=some (J I (i:Int)):=z.cell 1;have F:=z.lt;have o:=J6 (show _/\_ from⟨z,b0⟩);clear z b0;go_quiet (fail);simp only[Exit.then];apply_assumption;have N:=o.out.1.over (below_drewN (Below.refl wa.heap.size wa) nq);have b1:=below_drewN o.out.2 nq;clear E o F;generalize wa.drewN nq=w0 at *;have k:=J6 (show _/\_/\_ from⟨N,b1,HC.out.over b1⟩);clear N b1;have a0:=k.out.1.lt;have a1:=k.out.2.2.lt;have k0:w0.cell? ⟨w.heap.size,0,none⟩=some (J I 12):=k.out.1.cell 0
 go_upto_region 4 with fail
 clear k0;have hd0:=(Below.refl w0.heap.size w0).drew
 have q:(z5b (J2 (some ⟨g,99+i * 22,none⟩))).run prog w0.drew=.ok (J4 (csC (x.c i) (v.c i))) w0.drew/\w0.drew.cell? ⟨w.heap.size,3,none⟩=some (J I m)/\w0.drew.cell? ⟨w.heap.size,4,none⟩=some (J I n)/\w0.drew.cell? ⟨g,0,none⟩=some (J I x.ck):=
  ⟨j2k ((z9W x v u (x.c i) (v.c i)).part (k.out.2.2.over hd0)) (z0i _ _),(k.out.1.over hd0).cell 3,(k.out.1.over hd0).cell 4,(k.out.2.2.over hd0).cell 0⟩
 have t:=J6 (s.out w0.drew (zbt k.out.2.1 hd0));generalize Value.agg (csC (x.c i) (v.c i))=V0 at q t;clear s hd0;refine O.z1l (c:=12) (S:=fun a=>a=w0.drew) (by kernel_rfl) ?_
 have j:w0.drew=w0.drew:=rfl;refine O.z0v (i:=0) (v:=(J2 (some ⟨g,99+i * 22,none⟩))) (some 31) rfl rfl (by kernel_rfl) (by kernel_rfl) (by kernel_rfl) (by decide) (fun _ _ _ h=>h) (Or.inl ⟨by rfl,?_⟩) j ?_
 ·intro a;go_simp
 refine O.Y 1 (J2 (some ⟨g,99+i * 22,none⟩)) 32 rfl rfl j ?_ ?_
 ·rintro a rfl;go_simp
 refine O.Y 2 (J2 (some ⟨g,99+i * 22,none⟩)) 33 rfl rfl j ?_ ?_
 ·rintro a rfl;go_simp
 refine O.Y 3 V0 34 rfl rfl j ?_ ?_
 ·rintro a rfl;have l:=q.1;go_simp
 refine O.Y 4 (J2 (some ⟨w.heap.size,3,none⟩)) 35 rfl rfl j ?_ ?_
 ·rintro a rfl;go_simp
 refine O.Y 5 (J I m) 36 rfl rfl j ?_ ?_
 ·rintro a rfl;have l:=q.2.1;go_simp
 refine O.Y 6 (J2 (some ⟨w.heap.size,4,none⟩)) 37 rfl rfl j ?_ ?_
 ·rintro a rfl;go_simp
 refine O.Y 7 (J I n) 38 rfl rfl j ?_ ?_
 ·rintro a rfl;have l:=q.2.2.1;go_simp
 refine O.Y 8 (J2 (some ⟨g,0,none⟩)) 39 rfl rfl j ?_ ?_
 ·rintro a rfl;go_simp
 refine O.Y 9 (J2 (some ⟨g,0,none⟩)) 40 rfl rfl j ?_ ?_
 ·rintro a rfl;go_simp
 refine O.Y 10 (J2 (some ⟨g,0,none⟩)) 41 rfl rfl j ?_ ?_
 ·rintro a rfl;go_simp
 refine O.Y 11 (J I x.ck) 42 rfl rfl j ?_ ?_
 ·rintro a rfl;have l:=q.2.2.2;go_simp
 refine O.z1X (by kernel_rfl) rfl (fun K Q=>?_)
 refine z0B rfl ?_;go_simp;refine t.out.mono ?_;rintro e R⟨T,rfl,G,H⟩;dsimp only at G;dsimp only;have b3:=(Below.refl w0.heap.size w0).drew.trans H;obtain⟨ts,p⟩:∃ y,y=csC rc T:=⟨_,rfl⟩;rw[<- p];have A:=J6 p;clear p;refine Q _ _ ?_;clear Q K;refine O.X 13 (.tuple #[J4 ts,J I D]) 30 rfl rfl ?_ ?_
 ·intro a;go_simp
 refine O.X 14 (J4 ts) 44 rfl rfl ?_ ?_
 ·intro a;go_simp
 refine O.X 15 (J I D) 45 rfl rfl ?_ ?_
 ·intro a;go_simp
 refine O.X 16 (J2 (some ⟨g,99+i * 22,none⟩)) 46 rfl rfl ?_ ?_
 ·intro a;go_simp
 have q1:(Option.map (fun x=>x.size) (prog.info? 75))=some ts.size:=by rw[A.out,z3q];rfl
 have q2:ts.all (fun x=>x.oneCell')=true:=by rw[A.out];exact z1E G
 have q3:R.there g (99+i * 22) ts.size:=by rw[A.out];exact by simpa using (z9W x v u rc T).there (k.out.2.2.over b3)
 refine O.z1Y (i:=17) (by kernel_rfl) rfl rfl 75 _ _ rfl rfl g (99+i * 22) ts rfl rfl q3 q1 q2 ?_
 refine O.X 18 (J I D) 4 rfl rfl ?_ ?_
 ·intro a;go_simp
 refine wpAny_done (by kernel_rfl) ?_ _
 have U:=J6 (q1Z M.out V k.out.2.1 k.out.2.2 C b3 u G);rw[<- A.out]at U;generalize R.setCells g (99+i * 22) ts.toList=w4 at *;clear q1 q2 q3 q j;go_simp;go_wp2;go_ret;exact⟨rfl,U.out⟩
theorem j1i(g:Nat)(x:Wo)(v:WoV)(P:Nat->Prop)(w:World)(i:Nat)(e:i<2)(d:Dd)(a:d.k=11∨d.k=12)(hc:d.c=(i:Int))(h:CAt 97 w g (wdC x v))(j:WIn P w x v)(l:¬ P g) :
  Calls prog 65 #[J2 (some ⟨g,0,none⟩),J4 (ddC d)] w (q2s P w g (q5W x i d)):=by
 obtain⟨k,c,d,m,n,b,f⟩:=d;change c=_ at hc;subst hc
 rcases a with a | a <;> (change k=_ at a;subst a)
 ·exact q7y g x v P w i e d m n b f h j l
 ·exact q1v g x v P w i e d m n b f h j l
end Wd
end Go.Proofs.YtddlhnoedldidaaGreat
