/- Parts of the proof. -/
import Derived.Test.YtddlhnoedldidaaGreatML
import Derived.Test.YtddlhnoedldidaaGreatMK14
set_option maxRecDepth 100000
set_option maxHeartbeats 16000000
namespace Go.Proofs.YtddlhnoedldidaaGreat
open Go.Proofs.Tryz
open Value renaming int->J,slice->J1,pointer->J2,bool->J3,agg->J4
open IntKind renaming i64->I
open Obj renaming cells->J5
namespace Wd
open Go.RowKit Pv Kc
theorem j1r(g:Nat)(x:Wo)(v:WoV)(P:Nat->Prop)(w:World)(k c d m n:Int)(b f:Bool)(p:CAt 97 w g (wdC x v))(q:WIn P w x v)(B:¬ P g)(E:k=7∨k=8∨k=11∨k=12∨k=9∨k=10)(hc:isC c=false) :
  Calls prog 23 #[J2 (some ⟨g,0,none⟩),J4 #[J I k,J I c,J I d,J I m,J I n,J3 b,J3 f]] w (z9z P w g (x,0,4)):=by
 have F:=p.lt;have r:=q.lo;have s:¬ (P g/\g<w.heap.size):=fun h=>B h.1;have t:=q3J p q B;have j:=J6 (fun (i:World)=>z2v c i);rw[hc]at j;have o:=CAt.new 28 w #[J I k,J I c,J I d,J I m,J I n,J3 b,J3 f];have b0:Bl w (w.alloc (J5 #[J I k,J I c,J I d,J I m,J I n,J3 b,J3 f] 28)):=znw w _;have C:=z1M P w g;clear p q r s;clear hc
 go_enter func23,ntmps23
 go_upto_region 1 with fail
 generalize w.alloc (J5 #[J I k,J I c,J I d,J I m,J I n,J3 b,J3 f] 28)=w0 at *;obtain⟨k0,k1,H,L,M,N,Q⟩:=z2c o;have u:=J6 b0;have R:=o.lt;have y:=J6 o;clear o b0
 rcases E with rfl | rfl | rfl | rfl | rfl | rfl
 all_goals
  go_upto_region 19 with fail
  have l:Hid (∀ i,Bl w0 i->i.cell? ⟨w.heap.size,1,none⟩=some (J I c)/\True):=fun i hb=>⟨(y.out.over hb).cell 1,trivial⟩;refine wp_region_held_drew (S:=fun i=>Bl w0 i) (by kernel_rfl) (Below.refl _ _).drew (fun a=>?_)
  refine O.G 0 (J2 (some ⟨w.heap.size,1,none⟩)) 45 rfl rfl a ?_;simp only[O.pp,O.pb,O.pc];refine O.Z 1 (J I c) 46 rfl rfl a (fun i z=>by obtain⟨T,V⟩:=l.out i z;go_simp) ?_
  simp only[O.pp,O.pb,O.pc];refine wpAnyH_ready (rs:=[2]) (by kernel_rfl) (by simp) ?_
  refine AllReadyH.cons rfl (fun K D=>?_) AllReadyH.nil;go_simp;refine (j.out _).mono ?_;rintro e W⟨rfl,rfl⟩;dsimp only;refine D.out _ _ a (fun a=>?_);clear D K;refine O.G 3 (J3 true) 48 rfl rfl a ?_;simp only[O.pp,O.pb,O.pc];refine O.G 4 (J3 true) 49 rfl rfl a ?_;simp only[O.pp,O.pb,O.pc];refine O.U 5 50 rfl rfl a ?_;simp only[O.pp,O.pb,O.pc];refine O.U 6 51 rfl rfl a ?_;simp only[O.pp,O.pb,O.pc];refine O.U 7 52 rfl rfl a ?_;simp only[O.pp,O.pb,O.pc];refine O.U 8 53 rfl rfl a ?_;simp only[O.pp,O.pb,O.pc];refine O.U 9 54 rfl rfl a ?_;simp only[O.pp,O.pb,O.pc];refine O.U 10 55 rfl rfl a ?_;simp only[O.pp,O.pb,O.pc];refine O.U 11 56 rfl rfl a ?_;simp only[O.pp,O.pb,O.pc];refine O.U 12 57 rfl rfl a ?_;simp only[O.pp,O.pb,O.pc];refine O.U 13 58 rfl rfl a ?_;simp only[O.pp,O.pb,O.pc];refine O.G 14 (J3 true) 59 rfl rfl a ?_;simp only[O.pp,O.pb,O.pc];refine wpAnyH_done (by kernel_rfl) ?_ _
  have A:=J6 (zbt u.out a);clear a k0 k1 H L M N Q l;generalize w0.drew=w1 at *;go_simp;go_wp2;go_ret2;exact⟨rfl,t.out _ A.out⟩
theorem q7S(g:Nat)(x:Wo)(v:WoV)(P:Nat->Prop)(w:World)(i:Nat)(Q:i<2)(k d t n:Int)(b f:Bool)(u:CAt 97 w g (wdC x v))(z:WIn P w x v)(F:¬ P g)(R:k=7∨k=8∨k=11∨k=12∨k=9∨k=10)(o:(x.c i).on=false) :
  Calls prog 23 #[J2 (some ⟨g,0,none⟩),J4 #[J I k,J I (i:Int),J I d,J I t,J I n,J3 b,J3 f]] w (z9z P w g (x,0,4)):=by
 have T:(i:Int)<2:=by omega
 have U:(0:Int)<=(i:Int):=by omega
 have p:isC (i:Int)=true:=by unfold isC;simp;omega
 have V:=u.lt;have A:=z.lo;have B:¬ (P g/\g<w.heap.size):=fun h=>F h.1;have C:=q3J u z F;have q:=J6 (fun (j:World)=>z2v (i:Int) j);rw[p]at q;have r:=J6 (fun (j:World) (hb:Bl w j)=>j6P (u.over hb) Q);rw[o]at r;have y:=CAt.new 28 w #[J I k,J I (i:Int),J I d,J I t,J I n,J3 b,J3 f];have b0:Bl w (w.alloc (J5 #[J I k,J I (i:Int),J I d,J I t,J I n,J3 b,J3 f] 28)):=znw w _;have H:=z1M P w g;clear u z A B;clear o p
 go_enter func23,ntmps23
 go_upto_region 1 with fail
 generalize w.alloc (J5 #[J I k,J I (i:Int),J I d,J I t,J I n,J3 b,J3 f] 28)=w0 at *;obtain⟨k0,k1,W,X,Y,k5,k6⟩:=z2c y;have s:=J6 b0;have a0:=y.lt;have D:=J6 y;clear y b0
 rcases R with rfl | rfl | rfl | rfl | rfl | rfl
 all_goals
  go_upto_region 19 with fail
  have m:Hid (∀ j,Bl w0 j->j.cell? ⟨w.heap.size,1,none⟩=some (J I (i:Int))/\j.cell? ⟨g,99+i * 22,none⟩=some (J3 false)):=fun j hb=>⟨(D.out.over hb).cell 1,r.out j (zbt s.out hb)⟩;refine wp_region_held_drew (S:=fun j=>Bl w0 j) (by kernel_rfl) (Below.refl _ _).drew (fun a=>?_)
  refine O.G 0 (J2 (some ⟨w.heap.size,1,none⟩)) 45 rfl rfl a ?_;simp only[O.pp,O.pb,O.pc];refine O.Z 1 (J I (i:Int)) 46 rfl rfl a (fun j l=>by obtain⟨L,M⟩:=m.out j l;go_simp) ?_
  simp only[O.pp,O.pb,O.pc];refine wpAnyH_ready (rs:=[2]) (by kernel_rfl) (by simp) ?_
  refine AllReadyH.cons rfl (fun K N=>?_) AllReadyH.nil;go_simp;refine (q.out _).mono ?_;rintro e w3⟨rfl,rfl⟩;dsimp only;refine N.out _ _ a (fun a=>?_);clear N K;refine O.G 3 (J3 false) 48 rfl rfl a ?_;simp only[O.pp,O.pb,O.pc];refine O.G 4 (J3 false) 49 rfl rfl a ?_;simp only[O.pp,O.pb,O.pc];refine O.G 5 (J2 (some ⟨g,0,none⟩)) 50 rfl rfl a ?_;simp only[O.pp,O.pb,O.pc];refine O.G 6 (J2 (some ⟨w.heap.size,1,none⟩)) 51 rfl rfl a ?_;simp only[O.pp,O.pb,O.pc];refine O.Z 7 (J I (i:Int)) 52 rfl rfl a (fun j l=>by obtain⟨L,M⟩:=m.out j l;go_simp) ?_
  simp only[O.pp,O.pb,O.pc];refine O.G 8 (J2 (some ⟨g,0,none⟩)) 53 rfl rfl a ?_;simp only[O.pp,O.pb,O.pc];refine O.G 9 (J2 (some ⟨g,99,none⟩)) 54 rfl rfl a ?_;simp only[O.pp,O.pb,O.pc];refine O.G 10 (J2 (some ⟨g,99+i * 22,none⟩)) 55 rfl rfl a ?_;simp only[O.pp,O.pb,O.pc];refine O.G 11 (J2 (some ⟨g,99+i * 22,none⟩)) 56 rfl rfl a ?_;simp only[O.pp,O.pb,O.pc];refine O.Z 12 (J3 false) 57 rfl rfl a (fun j l=>by obtain⟨L,M⟩:=m.out j l;go_simp) ?_
  simp only[O.pp,O.pb,O.pc];refine O.G 13 (J3 true) 58 rfl rfl a ?_;simp only[O.pp,O.pb,O.pc];refine O.G 14 (J3 true) 59 rfl rfl a ?_;simp only[O.pp,O.pb,O.pc];refine wpAnyH_done (by kernel_rfl) ?_ _
  have E:=J6 (zbt s.out a);clear a k0 k1 W X Y k5 k6 m;generalize w0.drew=w1 at *;go_simp;go_wp2;go_ret2;exact⟨rfl,C.out _ E.out⟩
theorem j1I(g:Nat)(x:Wo)(v:WoV)(P:Nat->Prop)(w:World)(i:Nat)(L:i<2)(k d o n:Int)(b f:Bool)(E:CAt 97 w g (wdC x v))(M:WIn P w x v)(hg:¬ P g)(N:k=7∨k=8∨k=11∨k=12∨k=9∨k=10)(hs:Small x)(p:(x.c i).on=true) :
  Calls prog 23 #[J2 (some ⟨g,0,none⟩),J4 #[J I k,J I (i:Int),J I d,J I o,J I n,J3 b,J3 f]] w (z9z P w g (z9v x i ⟨k,(i:Int),d,o,n,b,f⟩)):=by
 have a0:(i:Int)<2:=by omega
 have a1:(0:Int)<=(i:Int):=by omega
 have q:isC (i:Int)=true:=by unfold isC;simp;omega
 have a2:=E.lt;have s:=M.lo;have t:¬ (P g/\g<w.heap.size):=fun h=>hg h.1;have H:=J6 (fun (a:World) (hb:Bl w a)=>q7g g x v _ a i L k d o n b f N (E.over hb) (s.over hb) t hs);have u:=J6 (fun (a:World)=>z2v (i:Int) a);rw[q]at u;have y:=J6 (fun (a:World) (hb:Bl w a)=>j6P (E.over hb) L);rw[p]at y;have F:=CAt.new 28 w #[J I k,J I (i:Int),J I d,J I o,J I n,J3 b,J3 f];have b0:Bl w (w.alloc (J5 #[J I k,J I (i:Int),J I d,J I o,J I n,J3 b,J3 f] 28)):=znw w _;have z:=z1M P w g;clear E M s t;clear p q;generalize z9v x i ⟨k,(i:Int),d,o,n,b,f⟩=r at *;obtain⟨rx,rn,re⟩:=r
 go_enter func23,ntmps23
 go_upto_region 1 with fail
 generalize w.alloc (J5 #[J I k,J I (i:Int),J I d,J I o,J I n,J3 b,J3 f] 28)=w0 at *;obtain⟨k0,k1,Q,R,T,U,V⟩:=z2c F;have A:=J6 b0;have a3:=F.lt;have B:=J6 F;clear F b0
 rcases N with rfl | rfl | rfl | rfl | rfl | rfl
 all_goals
  go_upto_region 19 with fail
  have m:Hid (∀ a,Bl w0 a->a.cell? ⟨w.heap.size,1,none⟩=some (J I (i:Int))/\a.cell? ⟨g,99+i * 22,none⟩=some (J3 true)):=fun a hb=>⟨(B.out.over hb).cell 1,y.out a (zbt A.out hb)⟩;refine wp_region_held_drew (S:=fun a=>Bl w0 a) (by kernel_rfl) (Below.refl _ _).drew (fun j=>?_)
  refine O.G 0 (J2 (some ⟨w.heap.size,1,none⟩)) 45 rfl rfl j ?_;simp only[O.pp,O.pb,O.pc];refine O.Z 1 (J I (i:Int)) 46 rfl rfl j (fun a l=>by obtain⟨W,X⟩:=m.out a l;go_simp) ?_
  simp only[O.pp,O.pb,O.pc];refine wpAnyH_ready (rs:=[2]) (by kernel_rfl) (by simp) ?_
  refine AllReadyH.cons rfl (fun K Y=>?_) AllReadyH.nil;go_simp;refine (u.out _).mono ?_;rintro e w3⟨rfl,rfl⟩;dsimp only;refine Y.out _ _ j (fun j=>?_);clear Y K;refine O.G 3 (J3 false) 48 rfl rfl j ?_;simp only[O.pp,O.pb,O.pc];refine O.G 4 (J3 false) 49 rfl rfl j ?_;simp only[O.pp,O.pb,O.pc];refine O.G 5 (J2 (some ⟨g,0,none⟩)) 50 rfl rfl j ?_;simp only[O.pp,O.pb,O.pc];refine O.G 6 (J2 (some ⟨w.heap.size,1,none⟩)) 51 rfl rfl j ?_;simp only[O.pp,O.pb,O.pc];refine O.Z 7 (J I (i:Int)) 52 rfl rfl j (fun a l=>by obtain⟨W,X⟩:=m.out a l;go_simp) ?_
  simp only[O.pp,O.pb,O.pc];refine O.G 8 (J2 (some ⟨g,0,none⟩)) 53 rfl rfl j ?_;simp only[O.pp,O.pb,O.pc];refine O.G 9 (J2 (some ⟨g,99,none⟩)) 54 rfl rfl j ?_;simp only[O.pp,O.pb,O.pc];refine O.G 10 (J2 (some ⟨g,99+i * 22,none⟩)) 55 rfl rfl j ?_;simp only[O.pp,O.pb,O.pc];refine O.G 11 (J2 (some ⟨g,99+i * 22,none⟩)) 56 rfl rfl j ?_;simp only[O.pp,O.pb,O.pc];refine O.Z 12 (J3 true) 57 rfl rfl j (fun a l=>by obtain⟨W,X⟩:=m.out a l;go_simp) ?_
  simp only[O.pp,O.pb,O.pc];refine O.G 13 (J3 false) 58 rfl rfl j ?_;simp only[O.pp,O.pb,O.pc];refine O.G 14 (J3 false) 59 rfl rfl j ?_;simp only[O.pp,O.pb,O.pc];refine wpAnyH_done (by kernel_rfl) ?_ _
  have C:=J6 (zbt A.out j);have D:=J6 (B.out.over j);clear j k0 k1 Q R T U V m;generalize w0.drew=w1 at *;obtain⟨k0,k1,Q,R,T,U,V⟩:=z2c D.out;have a4:=D.out.lt;go_simp
  go_wp2_with (go_at_call 37;refine (H.out _ C.out).mono ?_;rintro e w2⟨rfl,Z⟩;have HZ:=J6 Z;clear Z;dsimp only)
  go_ret2;exact⟨rfl,z.out _ _ _ C.out HZ.out⟩
end Wd
end Go.Proofs.YtddlhnoedldidaaGreat
