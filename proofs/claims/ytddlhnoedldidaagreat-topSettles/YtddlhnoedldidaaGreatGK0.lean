/- Parts of the proof. -/
import Derived.Test.YtddlhnoedldidaaGreatGL
import Derived.Test.YtddlhnoedldidaaGreatGK6
set_option maxRecDepth 100000
set_option maxHeartbeats 16000000
namespace Go.Proofs.YtddlhnoedldidaaGreat
open Go.Proofs.Tryz
open Value renaming int->J,slice->J1,pointer->J2,bool->J3,agg->J4
open IntKind renaming i64->I
open Obj renaming cells->J5
section
open Go.RowKit
def cl(n:Int):Int:=min (max n 0) 400000
theorem z4m(n:Int):(n<0/\cl n=0)∨(0<=n/\400000<n/\cl n=400000)∨(0<=n/\n<=400000/\cl n=n):=by
 unfold cl;omega
def Mid(w:World)(b k:Nat)(f0 f1 f2 f3 bo wa bu:Int):Prop:=
 BAt w b (if 3<k then cl f0 else f0) (if 4<k then cl f1 else f1) (if 5<k then cl f2 else f2) (if 6<k then cl f3 else f3) (if 0<k then cl bo else bo) (if 1<k then cl wa else wa) (if 2<k then cl bu else bu)
theorem q3n(f0 f1 f2 f3 bo wa bu:Int)(w:World) :
  Calls prog 164 #[J4 #[.int .i64 f0,.int .i64 f1,.int .i64 f2,.int .i64 f3,.int .i64 bo,.int .i64 wa,.int .i64 bu]] w
  fun e w'=>e=.returned (J4 #[.int .i64 (cl f0),.int .i64 (cl f1),.int .i64 (cl f2),.int .i64 (cl f3),.int .i64 (cl bo),.int .i64 (cl wa),.int .i64 (cl bu)])/\Bl w w':=by
 go_enter func164,ntmps164
 go_wp2_with fail
 refine (z9O _).mono ?_;rintro e w1⟨g,cap,c0,c1,c2,c3,rfl,P,hb⟩;have f:=((BAt.new w f0 f1 f2 f3 bo wa bu).alloc (J5 #[.int .i64 0,.int .i64 0,.int .i64 0,.int .i64 0,.int .i64 0,.int .i64 0,.int .i64 0] 35)).later hb (by simp;omega)
 have h:BAt w1 (w.heap.size+1) 0 0 0 0 0 0 0:=by
  have:=(BAt.new (w.alloc (J5 #[.int .i64 f0,.int .i64 f1,.int .i64 f2,.int .i64 f3,.int .i64 bo,.int .i64 wa,.int .i64 bu] 35)) 0 0 0 0 0 0 0).later hb (by simp)
  simpa using this
 have b:Hid (Bl w w1):=((znw w _).alloc (by simp) _).trans (hb.mono (by simp;omega))
 have P':PL w1 (w.heap.size+2) g c0 c1 c2 c3:=by simpa using P
 clear P hb;go_wp2
 go_loopw [8] (fun i wl=>∃ (k:Nat),k<=7/\i=.int .i64 (k:Int)/\Mid wl w.heap.size k f0 f1 f2 f3 bo wa bu/\PL wl (w.heap.size+2) g c0 c1 c2 c3/\BAt wl (w.heap.size+1) 0 0 0 0 0 0 0/\Hid (Bl w wl)) (fun i _=>(7 - intOf i).toNat)
 case atStart=>exact⟨0,by omega,rfl,f,P',h,b⟩
 case round =>
  clear f h b P';obtain⟨k,c,rfl,M,P,R,b⟩:=hrel
  rcases (show k=0∨k=1∨k=2∨k=3∨k=4∨k=5∨k=6∨k=7 by omega) with rfl | rfl | rfl | rfl | rfl | rfl | rfl | rfl
  ·have a:BAt wr w.heap.size f0 f1 f2 f3 bo wa bu:=M;have x:=a.cells.2.2.2.2.1;have y:=a.frees.2.2.2.2.1;have p:=P.p0
   have HM:Hid (Mid (wr.setCell ⟨w.heap.size,4,none⟩ (.int .i64 (cl bo))) w.heap.size 1 f0 f1 f2 f3 bo wa bu/\PL (wr.setCell ⟨w.heap.size,4,none⟩ (.int .i64 (cl bo))) (w.heap.size+2) g c0 c1 c2 c3/\BAt (wr.setCell ⟨w.heap.size,4,none⟩ (.int .i64 (cl bo))) (w.heap.size+1) 0 0 0 0 0 0 0/\Bl w (wr.setCell ⟨w.heap.size,4,none⟩ (.int .i64 (cl bo)))):=
    ⟨a.y0w _,P.later (fun k c=>Below.heap_setCell _ _ _ _ (by simp;omega)),R.other (by omega) _,b.out.setCell (by simp) _⟩
   clear M a P R
   rcases z4m bo with⟨h1,e1⟩ | ⟨h1,h2,e1⟩ | ⟨h1,h2,e1⟩
   all_goals
    rw[e1]at HM;clear e1
    go_wp2_with (go_at_call 169;refine (z1G _ _).mono ?_;rintro e d⟨rfl,rfl⟩)
    go_roundw
    case rel=>exact⟨1,by omega,by go_num,HM.out.1,HM.out.2.1.later (fun _ _=>rfl),HM.out.2.2.1,HM.out.2.2.2.trans ⟨rfl,rfl,rfl,Nat.le_refl _,fun _ _=>rfl⟩⟩
    case measure=>simp[intOf]
  ·have a:BAt wr w.heap.size f0 f1 f2 f3 (cl bo) wa bu:=M;have x:=a.cells.2.2.2.2.2.1;have y:=a.frees.2.2.2.2.2.1;have p:=P.p1
   have HM:Hid (Mid (wr.setCell ⟨w.heap.size,5,none⟩ (.int .i64 (cl wa))) w.heap.size 2 f0 f1 f2 f3 bo wa bu/\PL (wr.setCell ⟨w.heap.size,5,none⟩ (.int .i64 (cl wa))) (w.heap.size+2) g c0 c1 c2 c3/\BAt (wr.setCell ⟨w.heap.size,5,none⟩ (.int .i64 (cl wa))) (w.heap.size+1) 0 0 0 0 0 0 0/\Bl w (wr.setCell ⟨w.heap.size,5,none⟩ (.int .i64 (cl wa)))):=
    ⟨a.y0U _,P.later (fun k c=>Below.heap_setCell _ _ _ _ (by simp;omega)),R.other (by omega) _,b.out.setCell (by simp) _⟩
   clear M a P R
   rcases z4m wa with⟨h1,e1⟩ | ⟨h1,h2,e1⟩ | ⟨h1,h2,e1⟩
   all_goals
    rw[e1]at HM;clear e1
    go_wp2_with (go_at_call 170;refine (z1o _ _).mono ?_;rintro e d⟨rfl,rfl⟩)
    go_roundw
    case rel=>exact⟨2,by omega,by go_num,HM.out.1,HM.out.2.1.later (fun _ _=>rfl),HM.out.2.2.1,HM.out.2.2.2.trans ⟨rfl,rfl,rfl,Nat.le_refl _,fun _ _=>rfl⟩⟩
    case measure=>simp[intOf]
  ·have a:BAt wr w.heap.size f0 f1 f2 f3 (cl bo) (cl wa) bu:=M;have x:=a.cells.2.2.2.2.2.2;have y:=a.frees.2.2.2.2.2.2;have p:=P.p2
   have HM:Hid (Mid (wr.setCell ⟨w.heap.size,6,none⟩ (.int .i64 (cl bu))) w.heap.size 3 f0 f1 f2 f3 bo wa bu/\PL (wr.setCell ⟨w.heap.size,6,none⟩ (.int .i64 (cl bu))) (w.heap.size+2) g c0 c1 c2 c3/\BAt (wr.setCell ⟨w.heap.size,6,none⟩ (.int .i64 (cl bu))) (w.heap.size+1) 0 0 0 0 0 0 0/\Bl w (wr.setCell ⟨w.heap.size,6,none⟩ (.int .i64 (cl bu)))):=
    ⟨a.j9o _,P.later (fun k c=>Below.heap_setCell _ _ _ _ (by simp;omega)),R.other (by omega) _,b.out.setCell (by simp) _⟩
   clear M a P R
   rcases z4m bu with⟨h1,e1⟩ | ⟨h1,h2,e1⟩ | ⟨h1,h2,e1⟩
   all_goals
    rw[e1]at HM;clear e1
    go_wp2_with (go_at_call 192;refine (z5a _ _).mono ?_;rintro e d⟨rfl,rfl⟩)
    go_roundw
    case rel=>exact⟨3,by omega,by go_num,HM.out.1,HM.out.2.1.later (fun _ _=>rfl),HM.out.2.2.1,HM.out.2.2.2.trans ⟨rfl,rfl,rfl,Nat.le_refl _,fun _ _=>rfl⟩⟩
    case measure=>simp[intOf]
  ·have a:BAt wr w.heap.size f0 f1 f2 f3 (cl bo) (cl wa) (cl bu):=M;have x:=a.cells.1;have y:=a.frees.1;have p:=P.p3;have q:=P.q0
   have HM:Hid (Mid (wr.setCell ⟨w.heap.size,0,none⟩ (.int .i64 (cl f0))) w.heap.size 4 f0 f1 f2 f3 bo wa bu/\PL (wr.setCell ⟨w.heap.size,0,none⟩ (.int .i64 (cl f0))) (w.heap.size+2) g c0 c1 c2 c3/\BAt (wr.setCell ⟨w.heap.size,0,none⟩ (.int .i64 (cl f0))) (w.heap.size+1) 0 0 0 0 0 0 0/\Bl w (wr.setCell ⟨w.heap.size,0,none⟩ (.int .i64 (cl f0)))):=
    ⟨a.j1e _,P.later (fun k c=>Below.heap_setCell _ _ _ _ (by simp;omega)),R.other (by omega) _,b.out.setCell (by simp) _⟩
   clear M a P R
   rcases z4m f0 with⟨h1,e1⟩ | ⟨h1,h2,e1⟩ | ⟨h1,h2,e1⟩
   all_goals
    rw[e1]at HM;clear e1
    go_wp2_with (go_at_call 168;refine (z1p _ _ _ _ q (by decide) (by decide)).mono ?_;rintro e d⟨rfl,nq,rfl⟩)
    go_roundw
    case rel=>exact⟨4,by omega,by go_num,HM.out.1,HM.out.2.1.later (fun _ _=>rfl),HM.out.2.2.1,HM.out.2.2.2.trans ⟨rfl,rfl,rfl,Nat.le_refl _,fun _ _=>rfl⟩⟩
    case measure=>simp[intOf]
  ·have a:BAt wr w.heap.size (cl f0) f1 f2 f3 (cl bo) (cl wa) (cl bu):=M;have x:=a.cells.2.1;have y:=a.frees.2.1;have p:=P.p4;have q:=P.q1
   have HM:Hid (Mid (wr.setCell ⟨w.heap.size,1,none⟩ (.int .i64 (cl f1))) w.heap.size 5 f0 f1 f2 f3 bo wa bu/\PL (wr.setCell ⟨w.heap.size,1,none⟩ (.int .i64 (cl f1))) (w.heap.size+2) g c0 c1 c2 c3/\BAt (wr.setCell ⟨w.heap.size,1,none⟩ (.int .i64 (cl f1))) (w.heap.size+1) 0 0 0 0 0 0 0/\Bl w (wr.setCell ⟨w.heap.size,1,none⟩ (.int .i64 (cl f1)))):=
    ⟨a.q9q _,P.later (fun k c=>Below.heap_setCell _ _ _ _ (by simp;omega)),R.other (by omega) _,b.out.setCell (by simp) _⟩
   clear M a P R
   rcases z4m f1 with⟨h1,e1⟩ | ⟨h1,h2,e1⟩ | ⟨h1,h2,e1⟩
   all_goals
    rw[e1]at HM;clear e1
    go_wp2_with (go_at_call 168;refine (z1p _ _ _ _ q (by decide) (by decide)).mono ?_;rintro e d⟨rfl,nq,rfl⟩)
    go_roundw
    case rel=>exact⟨5,by omega,by go_num,HM.out.1,HM.out.2.1.later (fun _ _=>rfl),HM.out.2.2.1,HM.out.2.2.2.trans ⟨rfl,rfl,rfl,Nat.le_refl _,fun _ _=>rfl⟩⟩
    case measure=>simp[intOf]
  ·have a:BAt wr w.heap.size (cl f0) (cl f1) f2 f3 (cl bo) (cl wa) (cl bu):=M;have x:=a.cells.2.2.1;have y:=a.frees.2.2.1;have p:=P.p5;have q:=P.q2
   have HM:Hid (Mid (wr.setCell ⟨w.heap.size,2,none⟩ (.int .i64 (cl f2))) w.heap.size 6 f0 f1 f2 f3 bo wa bu/\PL (wr.setCell ⟨w.heap.size,2,none⟩ (.int .i64 (cl f2))) (w.heap.size+2) g c0 c1 c2 c3/\BAt (wr.setCell ⟨w.heap.size,2,none⟩ (.int .i64 (cl f2))) (w.heap.size+1) 0 0 0 0 0 0 0/\Bl w (wr.setCell ⟨w.heap.size,2,none⟩ (.int .i64 (cl f2)))):=
    ⟨a.j0x _,P.later (fun k c=>Below.heap_setCell _ _ _ _ (by simp;omega)),R.other (by omega) _,b.out.setCell (by simp) _⟩
   clear M a P R
   rcases z4m f2 with⟨h1,e1⟩ | ⟨h1,h2,e1⟩ | ⟨h1,h2,e1⟩
   all_goals
    rw[e1]at HM;clear e1
    go_wp2_with (go_at_call 168;refine (z1p _ _ _ _ q (by decide) (by decide)).mono ?_;rintro e d⟨rfl,nq,rfl⟩)
    go_roundw
    case rel=>exact⟨6,by omega,by go_num,HM.out.1,HM.out.2.1.later (fun _ _=>rfl),HM.out.2.2.1,HM.out.2.2.2.trans ⟨rfl,rfl,rfl,Nat.le_refl _,fun _ _=>rfl⟩⟩
    case measure=>simp[intOf]
  ·have a:BAt wr w.heap.size (cl f0) (cl f1) (cl f2) f3 (cl bo) (cl wa) (cl bu):=M;have x:=a.cells.2.2.2.1;have y:=a.frees.2.2.2.1;have p:=P.p6;have q:=P.q3
   have HM:Hid (Mid (wr.setCell ⟨w.heap.size,3,none⟩ (.int .i64 (cl f3))) w.heap.size 7 f0 f1 f2 f3 bo wa bu/\PL (wr.setCell ⟨w.heap.size,3,none⟩ (.int .i64 (cl f3))) (w.heap.size+2) g c0 c1 c2 c3/\BAt (wr.setCell ⟨w.heap.size,3,none⟩ (.int .i64 (cl f3))) (w.heap.size+1) 0 0 0 0 0 0 0/\Bl w (wr.setCell ⟨w.heap.size,3,none⟩ (.int .i64 (cl f3)))):=
    ⟨a.q9j _,P.later (fun k c=>Below.heap_setCell _ _ _ _ (by simp;omega)),R.other (by omega) _,b.out.setCell (by simp) _⟩
   clear M a P R
   rcases z4m f3 with⟨h1,e1⟩ | ⟨h1,h2,e1⟩ | ⟨h1,h2,e1⟩
   all_goals
    rw[e1]at HM;clear e1
    go_wp2_with (go_at_call 168;refine (z1p _ _ _ _ q (by decide) (by decide)).mono ?_;rintro e d⟨rfl,nq,rfl⟩)
    go_roundw
    case rel=>exact⟨7,by omega,by go_num,HM.out.1,HM.out.2.1.later (fun _ _=>rfl),HM.out.2.2.1,HM.out.2.2.2.trans ⟨rfl,rfl,rfl,Nat.le_refl _,fun _ _=>rfl⟩⟩
    case measure=>simp[intOf]
  ·have a:BAt wr w.heap.size (cl f0) (cl f1) (cl f2) (cl f3) (cl bo) (cl wa) (cl bu):=M;obtain⟨r,s,t,u,z,A,B⟩:=a.cells;obtain⟨y0,C,D,E,F,G,H⟩:=R.frees;obtain⟨K,L,N,Q,S,T,U⟩:=R.cells;have HR:Hid (BAt (z7i wr (w.heap.size+1) (cl f0) (cl f1) (cl f2) (cl f3) (cl bo) (cl wa) (cl bu)) (w.heap.size+1) (cl f0) (cl f1) (cl f2) (cl f3) (cl bo) (cl wa) (cl bu)):=R.z7i _ _ _ _ _ _ _;have HW:Hid (Bl w (z7i wr (w.heap.size+1) (cl f0) (cl f1) (cl f2) (cl f3) (cl bo) (cl wa) (cl bu))):=z3t b.out (by omega) _ _ _ _ _ _ _
   clear M a R P;go_wp2
   show bodyPost prog f164 _ Exit.ret _ (z7i wr (w.heap.size+1) (cl f0) (cl f1) (cl f2) (cl f3) (cl bo) (cl wa) (cl bu))
   obtain⟨j,u1,u2,l,m,n,o⟩:=HR.out.cells;generalize z7i wr (w.heap.size+1) (cl f0) (cl f1) (cl f2) (cl f3) (cl bo) (cl wa) (cl bu)=w9 at *;exact bodyPost_ret (v:=J4 #[.int .i64 (cl f0),.int .i64 (cl f1),.int .i64 (cl f2),.int .i64 (cl f3),.int .i64 (cl bo),.int .i64 (cl wa),.int .i64 (cl bu)]) (by simp[results,results164,go_sem,j,u1,u2,l,m,n,o]) rfl ⟨rfl,HW.out⟩
end
end Go.Proofs.YtddlhnoedldidaaGreat
