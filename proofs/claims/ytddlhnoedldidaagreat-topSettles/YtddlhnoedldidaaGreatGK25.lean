/- Parts of the proof. -/
import Derived.Test.YtddlhnoedldidaaGreatGL
import Derived.Test.YtddlhnoedldidaaGreatGK3
import Derived.Test.YtddlhnoedldidaaGreatGK28
set_option maxRecDepth 100000
set_option maxHeartbeats 16000000
namespace Go.Proofs.YtddlhnoedldidaaGreat
open Go.Proofs.Tryz
open Value renaming int->J,slice->J1,pointer->J2,bool->J3,agg->J4
open IntKind renaming i64->I
open Obj renaming cells->J5
namespace Wd
open Go.RowKit Pv Kc
attribute [local go_sem ↓] z0T z0F z2f z1J
theorem q6x(g:Nat)(x:Wo)(v:WoV)(P:Nat->Prop)(w:World)(i:Nat)(s:ByteArray)(f:CAt 97 w g (wdC x v))(h:WIn P w x v)(y:¬ P g)(hs:s.size<=maxLen)(a:x.p.q.length*88<=140737488351232) :
  Calls prog 88 #[J2 (some ⟨g,0,none⟩),J I (i:Int),J3 true,.string s] w (q3i P w g (z1B x i true s)):=by
 have o:z1B x i true s=({ x with p:=(z2z x.p i (Cd.bs s)).1},(z2z x.p i (Cd.bs s)).2):=rfl
 rw[o];clear o;have j:=f.lt;have z:=j2x ((z8T x v x.p v.p).part f) (z0a _ _);have k:=J6 (j1o x.p v.p P w (i:Int) s h.p hs a);have A:=J6 h;have t:=J6 f;clear f h hs a;generalize z2z x.p i (Cd.bs s)=r at *
 go_enter func88,ntmps88
 have l:Hid (∀(c:World) (b:PrV),Bl w c->(prC r.1 b).all (·.oneCell')=true->∃m,m=c.setCells g 2 (prC r.1 b).toList/\(z7f (J2 (some ⟨g,2,none⟩)) (J4 (prC r.1 b))).run prog c=.ok () m):=λc b b3 h3=>⟨_,rfl,j9b ((z8T x v r.1 b).there (t.out.over b3)) (z0a _ _) h3⟩
 go_wp2_with (go_at_call 126;refine k.out.mono ?_;rintro e c⟨b,rfl,u,b3⟩;clear z;obtain⟨m,d,B⟩:=l.out c b b3 (z1m u);have n:=J6 d;clear d)
 go_ret;refine⟨rfl,?_⟩;rw[n.out];exact q1S A.out y (Below.refl _ _) t.out j b3 u
theorem q3C(g:Nat)(x:Wo)(v:WoV)(P:Nat->Prop)(w:World)(i:Nat)(m:i<2)(s:ByteArray)(n:CAt 97 w g (wdC x v))(p:WIn P w x v)(L:¬ P g)(hs:s.size<=maxLen)(j:(x.c i).pd.length*80<=140737488351232) :
  Calls prog 88 #[J2 (some ⟨g,0,none⟩),J I (i:Int),J3 false,.string s] w (q3i P w g (z1B x i false s)):=by
 have D:z1B x i false s=({ x with c:=z2k x.c i (z3c (x.c i) (Cd.bs s)).1},(z3c (x.c i) (Cd.bs s)).2):=rfl
 rw[D];clear D;obtain⟨w0,b⟩:∃y,y=w:=⟨_,rfl⟩;have q:=n.lt;have M:(i:Int)<2:=by omega
 have N:(0:Int)<=(i:Int):=by omega
 have k:=J6 (q9f (x.c i) (v.c i) P w0.drew s (by rw[b];exact(p.c i m).over (Below.refl _ w).drew) hs j)
 have t:(z7n (J2 (some ⟨g,99+i*22,none⟩))).run prog w0.drew=.ok (J4 (csC (x.c i) (v.c i))) w0.drew:=by rw[b];exact j6H ((q1x x v m (x.c i) (v.c i)).part (n.over (Below.refl w.heap.size w).drew)) (z0r _ _)
 have u:Hid (True/\Bl w w0/\CAt 97 w0 g (wdC x v)):=by rw[b];exact⟨trivial,Below.refl _ _,n⟩
 have Q:=J6 p;clear n p hs j;generalize z3c (x.c i) (Cd.bs s)=r at *;obtain⟨rc,z⟩:=r;dsimp only;generalize Value.agg (csC (x.c i) (v.c i))=V0 at t k
 go_enter func88,ntmps88
 rw[<-b];have A:=J6 b;clear b
 go_upto_region 3 with fail
 refine O.z1r (c:=9) (S:=λa=>a=w0.drew) (by kernel_rfl) ?_
 have d:w0.drew=w0.drew:=rfl;refine O.z0z (i:=0) (v:=(J2 (some ⟨g,0,none⟩))) (some 24) rfl rfl (by kernel_rfl) (by kernel_rfl) (by kernel_rfl) (by decide) (λ_ _ _ h=>h) (Or.inl ⟨by rfl,?_⟩) d ?_
 ·intro a;go_simp
 refine O.z0z (i:=1) (v:=(J I (i:Int))) (some 25) rfl rfl (by kernel_rfl) (by kernel_rfl) (by kernel_rfl) (by decide) (λ_ _ _ h=>h) (Or.inl ⟨by rfl,?_⟩) d ?_
 ·intro a;go_simp
 refine O.z0z (i:=13) (v:=(J2 (some ⟨g,0,none⟩))) (some 36) rfl rfl (by kernel_rfl) (by kernel_rfl) (by kernel_rfl) (by decide) (λ_ _ _ h=>h) (Or.inl ⟨by rfl,?_⟩) d ?_
 ·intro a;go_simp
 refine O.z0z (i:=14) (v:=(J2 (some ⟨g,99,none⟩))) (some 37) rfl rfl (by kernel_rfl) (by kernel_rfl) (by kernel_rfl) (by decide) (λ_ _ _ h=>h) (Or.inl ⟨by rfl,?_⟩) d ?_
 ·intro a;go_simp
 refine O.Y 2 (J2 (some ⟨g,0,none⟩)) 26 rfl rfl d ?_ ?_
 ·rintro a rfl;go_simp
 refine O.Y 3 (J I (i:Int)) 27 rfl rfl d ?_ ?_
 ·rintro a rfl;go_simp
 refine O.Y 4 (J2 (some ⟨g,0,none⟩)) 28 rfl rfl d ?_ ?_
 ·rintro a rfl;go_simp
 refine O.Y 5 (J2 (some ⟨g,99,none⟩)) 29 rfl rfl d ?_ ?_
 ·rintro a rfl;go_simp
 refine O.Y 6 (J2 (some ⟨g,99+i*22,none⟩)) 30 rfl rfl d ?_ ?_
 ·rintro a rfl;go_simp
 refine O.Y 7 V0 31 rfl rfl d ?_ ?_
 ·rintro a rfl;have l:=t;go_simp
 refine O.Y 8 (.string s) 32 rfl rfl d ?_ ?_
 ·rintro a rfl;go_simp
 refine O.z2t (by kernel_rfl) rfl (λK E=>?_)
 refine z0H rfl ?_;go_simp;refine k.out.mono ?_;rintro e F⟨G,rfl,B,C⟩;dsimp only at B;dsimp only;have b3:=(Below.refl w0.heap.size w0).drew.trans C;obtain⟨ts,f⟩:∃y,y=csC rc G:=⟨_,rfl⟩;rw[<-f];have o:=J6 f;clear f;refine E _ _ ?_;clear E K;refine O.X 10 (.tuple #[J4 ts,J I z]) 23 rfl rfl ?_ ?_
 ·intro a;go_simp
 refine O.X 11 (J4 ts) 34 rfl rfl ?_ ?_
 ·intro a;go_simp
 refine O.X 12 (J I z) 35 rfl rfl ?_ ?_
 ·intro a;go_simp
 refine O.X 15 (J2 (some ⟨g,99+i*22,none⟩)) 38 rfl rfl ?_ ?_
 ·intro a;go_simp
 have q1:(Option.map (λx=>x.size) (prog.info? 75))=some ts.size:=by rw[o.out,z3K];rfl
 have q2:ts.all (λx=>x.oneCell')=true:=by rw[o.out];exact z2p B
 have q3:F.there g (99+i*22) ts.size:=by rw[o.out];exact by simpa using(q1x x v m rc G).there (u.out.2.2.over b3)
 refine O.z2q (i:=16) (by kernel_rfl) rfl rfl 75 _ _ rfl rfl g (99+i*22) ts rfl rfl q3 q1 q2 ?_
 refine O.X 17 (J I z) 8 rfl rfl ?_ ?_
 ·intro a;go_simp
 refine wpAny_done (by kernel_rfl) ?_ _
 have H:=J6 (q3d Q.out L u.out.2.1 u.out.2.2 q b3 m B);rw[<-o.out]at H;generalize F.setCells g (99+i*22) ts.toList=w4 at *;clear q1 q2 q3 t d;go_simp;go_wp2;go_ret;exact⟨rfl,by rw[A.out];exact H.out⟩
theorem q1K(g:Nat)(x:Wo)(v:WoV)(P:Nat->Prop)(w:World)(i:Nat)(j:i<2)(b:Bool)(s:ByteArray)(e:CAt 97 w g (wdC x v))(f:WIn P w x v)(h:¬ P g)(hs:s.size<=maxLen)(a:x.p.q.length*88<=140737488351232)(d:(x.c i).pd.length*80<=140737488351232) :
  Calls prog 88 #[J2 (some ⟨g,0,none⟩),J I (i:Int),J3 b,.string s] w (q3i P w g (z1B x i b s)):=by
 cases b
 ·exact q3C g x v P w i j s e f h hs d
 ·exact q6x g x v P w i s e f h hs a
theorem q9J(g:Nat)(x:Wo)(v:WoV)(P:Nat->Prop)(w:World)(i:Nat)(u:i<2)(d m n:Int)(b f:Bool)(B:CAt 97 w g (wdC x v))(L:WIn P w x v)(V:¬ P g) :
  Calls prog 65 #[J2 (some ⟨g,0,none⟩),J4 #[J I 11,J I (i:Int),J I d,J I m,J I n,J3 b,J3 f]] w (q3i P w g ({ x with c:=z2k x.c i (z3o (x.c i) m x.ck).1},(z3o (x.c i) m x.ck).2)):=by
 have C:=B.lt;have W:(i:Int)<2:=by omega
 have Z:(0:Int)<=(i:Int):=by omega
 have HC:=J6 B;have M:=J6 L;clear B L;have q:=J6 (λ(a:World) (hb:Bl w a)=>q7B (x.c i) (v.c i) P a m x.ck ((M.out.c i u).over hb));generalize z3o (x.c i) m x.ck=r at *;obtain⟨rc,D⟩:=r;dsimp only
 go_enter func65,ntmps65
 go_upto_region 1 with fail
 have z:=CAt.new 28 w #[J I 11,J I (i:Int),J I d,J I m,J I n,J3 b,J3 f];have b0:Bl w (w.alloc (J5 #[J I 11,J I (i:Int),J I d,J I m,J I n,J3 b,J3 f] 28)):=znw w _;generalize w.alloc (J5 #[J I 11,J I (i:Int),J I d,J I m,J I n,J3 b,J3 f] 28)=wa at *;have E:wa.cell? ⟨w.heap.size,1,none⟩=some (J I (i:Int)):=z.cell 1;have F:=z.lt;have o:=J6 (show _/\_ from⟨z,b0⟩);clear z b0;go_quiet (fail);simp only[Exit.then];apply_assumption;have N:=o.out.1.over (below_drewN (Below.refl wa.heap.size wa) nq);have b1:=below_drewN o.out.2 nq;clear E o F;generalize wa.drewN nq=w0 at *;have j:=J6 (show _/\_/\_ from⟨N,b1,HC.out.over b1⟩);clear N b1;have a0:=j.out.1.lt;have a1:=j.out.2.2.lt;have k0:w0.cell? ⟨w.heap.size,0,none⟩=some (J I 11):=j.out.1.cell 0
 go_upto_region 3 with fail
 clear k0;have hd0:=(Below.refl w0.heap.size w0).drew
 have s:(z7n (J2 (some ⟨g,99+i*22,none⟩))).run prog w0.drew=.ok (J4 (csC (x.c i) (v.c i))) w0.drew/\w0.drew.cell? ⟨w.heap.size,3,none⟩=some (J I m)/\w0.drew.cell? ⟨w.heap.size,4,none⟩=some (J I n)/\w0.drew.cell? ⟨g,0,none⟩=some (J I x.ck):=
  ⟨j6H ((q1x x v u (x.c i) (v.c i)).part (j.out.2.2.over hd0)) (z0r _ _),(j.out.1.over hd0).cell 3,(j.out.1.over hd0).cell 4,(j.out.2.2.over hd0).cell 0⟩
 have t:=J6 (q.out w0.drew (zbt j.out.2.1 hd0));generalize Value.agg (csC (x.c i) (v.c i))=V0 at s t;clear q hd0;refine O.z1r (c:=10) (S:=λa=>a=w0.drew) (by kernel_rfl) ?_
 have k:w0.drew=w0.drew:=rfl;refine O.z0z (i:=0) (v:=(J2 (some ⟨g,99+i*22,none⟩))) (some 16) rfl rfl (by kernel_rfl) (by kernel_rfl) (by kernel_rfl) (by decide) (λ_ _ _ h=>h) (Or.inl ⟨by rfl,?_⟩) k ?_
 ·intro a;go_simp
 refine O.Y 1 (J2 (some ⟨g,99+i*22,none⟩)) 17 rfl rfl k ?_ ?_
 ·rintro a rfl;go_simp
 refine O.Y 2 (J2 (some ⟨g,99+i*22,none⟩)) 18 rfl rfl k ?_ ?_
 ·rintro a rfl;go_simp
 refine O.Y 3 V0 19 rfl rfl k ?_ ?_
 ·rintro a rfl;have l:=s.1;go_simp
 refine O.Y 4 (J2 (some ⟨w.heap.size,3,none⟩)) 20 rfl rfl k ?_ ?_
 ·rintro a rfl;go_simp
 refine O.Y 5 (J I m) 21 rfl rfl k ?_ ?_
 ·rintro a rfl;have l:=s.2.1;go_simp
 refine O.Y 6 (J2 (some ⟨g,0,none⟩)) 22 rfl rfl k ?_ ?_
 ·rintro a rfl;go_simp
 refine O.Y 7 (J2 (some ⟨g,0,none⟩)) 23 rfl rfl k ?_ ?_
 ·rintro a rfl;go_simp
 refine O.Y 8 (J2 (some ⟨g,0,none⟩)) 24 rfl rfl k ?_ ?_
 ·rintro a rfl;go_simp
 refine O.Y 9 (J I x.ck) 25 rfl rfl k ?_ ?_
 ·rintro a rfl;have l:=s.2.2.2;go_simp
 refine O.z2t (by kernel_rfl) rfl (λK Q=>?_)
 refine z0H rfl ?_;go_simp;refine t.out.mono ?_;rintro e R⟨T,rfl,G,H⟩;dsimp only at G;dsimp only;have b3:=(Below.refl w0.heap.size w0).drew.trans H;obtain⟨ts,p⟩:∃y,y=csC rc T:=⟨_,rfl⟩;rw[<-p];have A:=J6 p;clear p;refine Q _ _ ?_;clear Q K;refine O.X 11 (.tuple #[J4 ts,J I D]) 15 rfl rfl ?_ ?_
 ·intro a;go_simp
 refine O.X 12 (J4 ts) 27 rfl rfl ?_ ?_
 ·intro a;go_simp
 refine O.X 13 (J I D) 28 rfl rfl ?_ ?_
 ·intro a;go_simp
 refine O.X 14 (J2 (some ⟨g,99+i*22,none⟩)) 29 rfl rfl ?_ ?_
 ·intro a;go_simp
 have q1:(Option.map (λx=>x.size) (prog.info? 75))=some ts.size:=by rw[A.out,z3K];rfl
 have q2:ts.all (λx=>x.oneCell')=true:=by rw[A.out];exact z2p G
 have q3:R.there g (99+i*22) ts.size:=by rw[A.out];exact by simpa using(q1x x v u rc T).there (j.out.2.2.over b3)
 refine O.z2q (i:=15) (by kernel_rfl) rfl rfl 75 _ _ rfl rfl g (99+i*22) ts rfl rfl q3 q1 q2 ?_
 refine O.X 16 (J I D) 4 rfl rfl ?_ ?_
 ·intro a;go_simp
 refine wpAny_done (by kernel_rfl) ?_ _
 have U:=J6 (q3d M.out V j.out.2.1 j.out.2.2 C b3 u G);rw[<-A.out]at U;generalize R.setCells g (99+i*22) ts.toList=w4 at *;clear q1 q2 q3 s k;go_simp;go_wp2;go_ret;exact⟨rfl,U.out⟩
theorem q3f(g:Nat)(x:Wo)(v:WoV)(P:Nat->Prop)(w:World)(i:Nat)(u:i<2)(d m n:Int)(b f:Bool)(B:CAt 97 w g (wdC x v))(L:WIn P w x v)(V:¬ P g) :
  Calls prog 65 #[J2 (some ⟨g,0,none⟩),J4 #[J I 12,J I (i:Int),J I d,J I m,J I n,J3 b,J3 f]] w (q3i P w g ({ x with c:=z2k x.c i (z1c (x.c i) m n x.ck).1},(z1c (x.c i) m n x.ck).2)):=by
 have C:=B.lt;have W:(i:Int)<2:=by omega
 have Z:(0:Int)<=(i:Int):=by omega
 have HC:=J6 B;have M:=J6 L;clear B L;have s:=J6 (λ(a:World) (hb:Bl w a)=>q2Y (x.c i) (v.c i) P a m n x.ck ((M.out.c i u).over hb));generalize z1c (x.c i) m n x.ck=r at *;obtain⟨rc,D⟩:=r;dsimp only
 go_enter func65,ntmps65
 go_upto_region 1 with fail
 have z:=CAt.new 28 w #[J I 12,J I (i:Int),J I d,J I m,J I n,J3 b,J3 f];have b0:Bl w (w.alloc (J5 #[J I 12,J I (i:Int),J I d,J I m,J I n,J3 b,J3 f] 28)):=znw w _;generalize w.alloc (J5 #[J I 12,J I (i:Int),J I d,J I m,J I n,J3 b,J3 f] 28)=wa at *;have E:wa.cell? ⟨w.heap.size,1,none⟩=some (J I (i:Int)):=z.cell 1;have F:=z.lt;have o:=J6 (show _/\_ from⟨z,b0⟩);clear z b0;go_quiet (fail);simp only[Exit.then];apply_assumption;have N:=o.out.1.over (below_drewN (Below.refl wa.heap.size wa) nq);have b1:=below_drewN o.out.2 nq;clear E o F;generalize wa.drewN nq=w0 at *;have k:=J6 (show _/\_/\_ from⟨N,b1,HC.out.over b1⟩);clear N b1;have a0:=k.out.1.lt;have a1:=k.out.2.2.lt;have k0:w0.cell? ⟨w.heap.size,0,none⟩=some (J I 12):=k.out.1.cell 0
 go_upto_region 4 with fail
 clear k0;have hd0:=(Below.refl w0.heap.size w0).drew
 have q:(z7n (J2 (some ⟨g,99+i*22,none⟩))).run prog w0.drew=.ok (J4 (csC (x.c i) (v.c i))) w0.drew/\w0.drew.cell? ⟨w.heap.size,3,none⟩=some (J I m)/\w0.drew.cell? ⟨w.heap.size,4,none⟩=some (J I n)/\w0.drew.cell? ⟨g,0,none⟩=some (J I x.ck):=
  ⟨j6H ((q1x x v u (x.c i) (v.c i)).part (k.out.2.2.over hd0)) (z0r _ _),(k.out.1.over hd0).cell 3,(k.out.1.over hd0).cell 4,(k.out.2.2.over hd0).cell 0⟩
 have t:=J6 (s.out w0.drew (zbt k.out.2.1 hd0));generalize Value.agg (csC (x.c i) (v.c i))=V0 at q t;clear s hd0;refine O.z1r (c:=12) (S:=λa=>a=w0.drew) (by kernel_rfl) ?_
 have j:w0.drew=w0.drew:=rfl;refine O.z0z (i:=0) (v:=(J2 (some ⟨g,99+i*22,none⟩))) (some 31) rfl rfl (by kernel_rfl) (by kernel_rfl) (by kernel_rfl) (by decide) (λ_ _ _ h=>h) (Or.inl ⟨by rfl,?_⟩) j ?_
 ·intro a;go_simp
 refine O.Y 1 (J2 (some ⟨g,99+i*22,none⟩)) 32 rfl rfl j ?_ ?_
 ·rintro a rfl;go_simp
 refine O.Y 2 (J2 (some ⟨g,99+i*22,none⟩)) 33 rfl rfl j ?_ ?_
 ·rintro a rfl;go_simp
 refine O.Y 3 V0 34 rfl rfl j ?_ ?_
 ·rintro a rfl;have l:=q.1;go_simp
 refine O.Y 4 (J2 (some ⟨w.heap.size,3,none⟩)) 35 rfl rfl j ?_ ?_
 ·rintro a rfl;go_simp
 refine O.Y 5 (J I m) 36 rfl rfl j ?_ ?_
 ·rintro a rfl;have l:=q.2.1;go_simp
 refine O.Y 6 (J2 (some ⟨w.heap.size,4,none⟩)) 37 rfl rfl j ?_ ?_
 ·rintro a rfl;go_simp
 refine O.Y 7 (J I n) 38 rfl rfl j ?_ ?_
 ·rintro a rfl;have l:=q.2.2.1;go_simp
 refine O.Y 8 (J2 (some ⟨g,0,none⟩)) 39 rfl rfl j ?_ ?_
 ·rintro a rfl;go_simp
 refine O.Y 9 (J2 (some ⟨g,0,none⟩)) 40 rfl rfl j ?_ ?_
 ·rintro a rfl;go_simp
 refine O.Y 10 (J2 (some ⟨g,0,none⟩)) 41 rfl rfl j ?_ ?_
 ·rintro a rfl;go_simp
 refine O.Y 11 (J I x.ck) 42 rfl rfl j ?_ ?_
 ·rintro a rfl;have l:=q.2.2.2;go_simp
 refine O.z2t (by kernel_rfl) rfl (λK Q=>?_)
 refine z0H rfl ?_;go_simp;refine t.out.mono ?_;rintro e R⟨T,rfl,G,H⟩;dsimp only at G;dsimp only;have b3:=(Below.refl w0.heap.size w0).drew.trans H;obtain⟨ts,p⟩:∃y,y=csC rc T:=⟨_,rfl⟩;rw[<-p];have A:=J6 p;clear p;refine Q _ _ ?_;clear Q K;refine O.X 13 (.tuple #[J4 ts,J I D]) 30 rfl rfl ?_ ?_
 ·intro a;go_simp
 refine O.X 14 (J4 ts) 44 rfl rfl ?_ ?_
 ·intro a;go_simp
 refine O.X 15 (J I D) 45 rfl rfl ?_ ?_
 ·intro a;go_simp
 refine O.X 16 (J2 (some ⟨g,99+i*22,none⟩)) 46 rfl rfl ?_ ?_
 ·intro a;go_simp
 have q1:(Option.map (λx=>x.size) (prog.info? 75))=some ts.size:=by rw[A.out,z3K];rfl
 have q2:ts.all (λx=>x.oneCell')=true:=by rw[A.out];exact z2p G
 have q3:R.there g (99+i*22) ts.size:=by rw[A.out];exact by simpa using(q1x x v u rc T).there (k.out.2.2.over b3)
 refine O.z2q (i:=17) (by kernel_rfl) rfl rfl 75 _ _ rfl rfl g (99+i*22) ts rfl rfl q3 q1 q2 ?_
 refine O.X 18 (J I D) 4 rfl rfl ?_ ?_
 ·intro a;go_simp
 refine wpAny_done (by kernel_rfl) ?_ _
 have U:=J6 (q3d M.out V k.out.2.1 k.out.2.2 C b3 u G);rw[<-A.out]at U;generalize R.setCells g (99+i*22) ts.toList=w4 at *;clear q1 q2 q3 q j;go_simp;go_wp2;go_ret;exact⟨rfl,U.out⟩
theorem j1T(g:Nat)(x:Wo)(v:WoV)(P:Nat->Prop)(w:World)(i:Nat)(e:i<2)(d:Dd)(a:d.k=11∨d.k=12)(hc:d.c=(i:Int))(h:CAt 97 w g (wdC x v))(j:WIn P w x v)(l:¬ P g) :
  Calls prog 65 #[J2 (some ⟨g,0,none⟩),J4 (ddC d)] w (q3i P w g (z9d x i d)):=by
 obtain⟨k,c,d,m,n,b,f⟩:=d;change c=_ at hc;subst hc
 rcases a with a|a <;> (change k=_ at a;subst a)
 ·exact q9J g x v P w i e d m n b f h j l
 ·exact q3f g x v P w i e d m n b f h j l
end Wd
namespace Pv
open Go.RowKit
attribute [local go_sem ↓] z1P z0T z0F z1H
theorem q0j(g:Nat)(p:Pr)(v:PrV)(P:Nat->Prop)(w:World)(c:Nat)(hc:c<2)(x:Pkt)(B E:Value)(K:CAt 58 w g (prC p v))(hp:PIn P w p v)(hg:¬ P g)(_hgs:z0k p.s=true)(t:x.k=2)(_hv:x.k=3∨x.k=4->0<=x.v/\x.v<6) :
  Calls prog 109 #[J2 (some ⟨g,0,none⟩),J4 #[.int .i64 (c:Int),.int .i64 x.k,.int .i64 x.i,.int .i64 x.v,.int .i64 x.n,B,E]] w (z4E w g P (z1y p c x)):=by
 have hD:z1y p c x=if x.k=2 then({ p with s:={ p.s with W:=z4X c x.i p.s.W}},true)
  else if x.k=4 then
   if(p.s.V x.v.toNat).dead=true then(p,true)else({ p with s:=z8x p.s x.v.toNat (j6w x.i (p.L c).base)},true)
  else if(p.s.V x.v.toNat).jail=true then({ p with L:=z0P p.L c { p.L c with done:=z3s (p.L c).done x.v}},true)
  else if p.ml<1 then(p,false)
  else({ p with ml:=wrap64 (p.ml - j8v (p.s.V x.v.toNat)),s:=z5m p.s x.v.toNat true (p.s.V x.v.toNat).dead,L:=z0P p.L c { p.L c with done:=z3s (p.L c).done x.v}},true):=by unfold z1y;rfl
 generalize z1y p c x=D at *;have HD:=J6 hD;have M:=J6 t;clear t;have HP:=J6 hp;have N:=K.lt;have a2:(c:Int)<2:=by omega
 have a3:(0:Int)<=(c:Int):=by omega
 clear hD
 go_enter func109,ntmps109
 go_upto_region 1 with fail
 have F:=CAt.new 70 w #[.int .i64 (c:Int),.int .i64 x.k,.int .i64 x.i,.int .i64 x.v,.int .i64 x.n,B,E];have b0:Bl w (w.alloc (J5 #[.int .i64 (c:Int),.int .i64 x.k,.int .i64 x.i,.int .i64 x.v,.int .i64 x.n,B,E] 70)):=znw w _;generalize w.alloc (J5 #[.int .i64 (c:Int),.int .i64 x.k,.int .i64 x.i,.int .i64 x.v,.int .i64 x.n,B,E] 70)=w0 at *;have k0:w0.cell? ⟨w.heap.size,0,none⟩=some (.int .i64 (c:Int)):=F.cell 0;have a4:=F.lt;have G:=J6 (show _/\_/\_ from⟨K.over b0,F,b0⟩);clear K hp F b0;go_quiet (fail);simp only[Exit.then];apply_assumption;have H:=G.out.1.over (below_drewN (Below.refl w0.heap.size w0) nq);have l:=G.out.2.1.over (below_drewN (Below.refl w0.heap.size w0) nq);have b1:=below_drewN G.out.2.2 nq;clear k0 G;generalize w0.drewN nq=w1 at *;have Q:w1.cell? ⟨w.heap.size,0,none⟩=some (.int .i64 (c:Int)):=l.cell 0;have k1:w1.cell? ⟨w.heap.size,1,none⟩=some (.int .i64 x.k):=l.cell 1;have k2:w1.cell? ⟨w.heap.size,2,none⟩=some (.int .i64 x.i):=l.cell 2;have k3:w1.cell? ⟨w.heap.size,3,none⟩=some (.int .i64 x.v):=l.cell 3;have R:=l.lt;have S:=H.lt;have P1:=HP.out.z2X b1 0;have m1:=z2y H;have m:=J6 (show _/\_/\_/\_ from⟨H,l,b1,P1⟩);clear H l b1 P1;have t:=M.out;rw[t]at k1;replace HD:=J6 (HD.out.trans (if_pos t));obtain⟨a,o⟩:∃a:St,{ p.s with W:=z4X c x.i p.s.W}=a:=⟨_,rfl⟩
 have hsW:z4X c x.i p.s.W=a.W:=by rw[<-o]
 have f:=λ(wx:World) (hb:Bl w1 wx)=>j4F (m.out.2.2.2.ws.over hb) c x.i hc;rw[o]at f HD;rw[hsW]at f;have T:=J6 f;clear f o hsW;have U:=z2y (m.out.1.over (Below.refl w1.heap.size w1).drew)
 go_upto_region 4 with fail
 apply q3Q (λu w'=>∃d,w'=d.setCells g 2 (stC a u).toList/\Bl w1 d/\Rep (λb=>w1.heap.size<=b) d u 8 64 (wsL a.W))
 ·refine wp_region_noPanic ?_;have X:Hid (∀(d:World) (j:Value),Bl w1 d->(∃A n C,j=J1 A n C)->∃Y,Y=d.setCells g 2 (stC a j).toList/\(q1Y (J2 (some ⟨g,2,none⟩)) (J4 (stC a j))).run prog d=.ok () Y):=λd j b3 h3=>⟨_,rfl,z3g (m.out.1.over b3) (z0a _ _) (z0f a j) (z7b a h3)⟩;have Z:=J6 (T.out w1.drew (Below.refl _ _).drew)
  go_region_with (go_at_call 128;refine Z.out.mono ?_;rintro e d⟨j,rfl,y,a0⟩;have b3:=(Below.refl w1.heap.size w1).drew.trans a0;obtain⟨Y,z,a5⟩:=X.out d j b3 y.one';have a1:=J6 z;clear z)
  all_goals
   exact NoPanic.normal ⟨j,rfl,rfl,d,a1.out,b3,y⟩
 rintro u w'⟨d,rfl,b3,y⟩;have C4:=(m.out.1.over b3).z1q a u;have A4:=(Alt.of (g:=g) (zbt m.out.2.2.1 b3)).sets (stC a u).toList 2;have a6:=m.out.2.2.1.size;have U4:=y.sets (g:=g) (λh=>by omega) 2 (stC a u).toList
 have N4:=(m.out.2.2.2.over b3).sets (g:=g) (z0R hg N) 2 (stC a u).toList;have r:=J6 (show _/\_/\_/\_ from⟨C4,A4,U4,N4⟩);clear C4 A4 U4 N4 b3 y m1 U Q k1 k2 k3 R S;generalize d.setCells g 2 (stC a u).toList=w4 at *;simp only[Exit.inBlock,Exit.then];apply_assumption;go_wp2;go_ret;have hd:=HD.out;rw[hd];exact⟨{ v with ws:=u},rfl,r.out.1,⟨r.out.2.2.1.mono λb _ h=>.inr (by omega),r.out.2.2.2.set,r.out.2.2.2.lk,r.out.2.2.2.q⟩,r.out.2.1⟩
theorem q6f(g:Nat)(p:Pr)(v:PrV)(P:Nat->Prop)(w:World)(c:Nat)(hc:c<2)(x:Pkt)(l m:Value)(y:CAt 58 w g (prC p v))(hp:PIn P w p v)(F:¬ P g)(_hgs:z0k p.s=true)(f:x.k=3)(_hv:x.k=3∨x.k=4->0<=x.v/\x.v<6)
  (j:x.k=3->∀(o:World) (v:PrV) (P':Nat->Prop),CAt 58 o g (prC p v)->PIn P' o p v->¬ P' g->Calls prog 152 #[J2 (some ⟨g,0,none⟩),J2 (some ⟨g,66+c*14,none⟩),.int .i64 x.v] o (z4E o g P' (z1y p c x))) :
  Calls prog 109 #[J2 (some ⟨g,0,none⟩),J4 #[.int .i64 (c:Int),.int .i64 x.k,.int .i64 x.i,.int .i64 x.v,.int .i64 x.n,l,m]] w (z4E w g P (z1y p c x)):=by
 have C:z1y p c x=if x.k=2 then({ p with s:={ p.s with W:=z4X c x.i p.s.W}},true)
  else if x.k=4 then
   if(p.s.V x.v.toNat).dead=true then(p,true)else({ p with s:=z8x p.s x.v.toNat (j6w x.i (p.L c).base)},true)
  else if(p.s.V x.v.toNat).jail=true then({ p with L:=z0P p.L c { p.L c with done:=z3s (p.L c).done x.v}},true)
  else if p.ml<1 then(p,false)
  else({ p with ml:=wrap64 (p.ml - j8v (p.s.V x.v.toNat)),s:=z5m p.s x.v.toNat true (p.s.V x.v.toNat).dead,L:=z0P p.L c { p.L c with done:=z3s (p.L c).done x.v}},true):=by unfold z1y;rfl
 generalize z1y p c x=D at *;have HD:=J6 C;have z:=J6 f;clear f;have a:=J6 j;have G:=J6 hp;have A:=y.lt;have H:(c:Int)<2:=by omega
 have K:(0:Int)<=(c:Int):=by omega
 clear C j
 go_enter func109,ntmps109
 go_upto_region 1 with fail
 have q:=CAt.new 70 w #[.int .i64 (c:Int),.int .i64 x.k,.int .i64 x.i,.int .i64 x.v,.int .i64 x.n,l,m];have b0:Bl w (w.alloc (J5 #[.int .i64 (c:Int),.int .i64 x.k,.int .i64 x.i,.int .i64 x.v,.int .i64 x.n,l,m] 70)):=znw w _;generalize w.alloc (J5 #[.int .i64 (c:Int),.int .i64 x.k,.int .i64 x.i,.int .i64 x.v,.int .i64 x.n,l,m] 70)=w0 at *;have k0:w0.cell? ⟨w.heap.size,0,none⟩=some (.int .i64 (c:Int)):=q.cell 0;have M:=q.lt;have r:=J6 (show _/\_/\_ from⟨y.over b0,q,b0⟩);clear y hp q b0;go_quiet (fail);simp only[Exit.then];apply_assumption;have t:=r.out.1.over (below_drewN (Below.refl w0.heap.size w0) nq);have d:=r.out.2.1.over (below_drewN (Below.refl w0.heap.size w0) nq);have b1:=below_drewN r.out.2.2 nq;clear k0 r;generalize w0.drewN nq=w1 at *;have N:w1.cell? ⟨w.heap.size,0,none⟩=some (.int .i64 (c:Int)):=d.cell 0;have k1:w1.cell? ⟨w.heap.size,1,none⟩=some (.int .i64 x.k):=d.cell 1;have X:w1.cell? ⟨w.heap.size,2,none⟩=some (.int .i64 x.i):=d.cell 2;have Y:w1.cell? ⟨w.heap.size,3,none⟩=some (.int .i64 x.v):=d.cell 3;have Q:=d.lt;have R:=t.lt;have E:=G.out.z2X b1 0;have Z:=z2y t;have u:=J6 (show _/\_/\_/\_ from⟨t,d,b1,E⟩);clear t d b1 E;have f:=z.out;rw[f]at k1;replace a:=J6 (a.out f);have B:=J6 (a.out w1 v _ u.out.1 u.out.2.2.2 (z0R F A));clear a
 go_wp2_with (go_at_call 152;refine B.out.mono ?_;rintro e w2⟨v2,rfl,S,T,U⟩)
 go_ret;refine⟨v2,rfl,S,T.mono λb _ h=>?_,(Alt.of u.out.2.2.1).trans U⟩
 rcases h with⟨h,_⟩|h
 ·exact h
 ·exact .inr (by have:=u.out.2.2.1.size;omega)
end Pv
end Go.Proofs.YtddlhnoedldidaaGreat
