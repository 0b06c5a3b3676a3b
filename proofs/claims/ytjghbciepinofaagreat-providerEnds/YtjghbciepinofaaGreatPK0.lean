/- Parts of the proof. -/
import Derived.Test.YtjghbciepinofaaGreatPL
import Derived.Test.YtjghbciepinofaaGreatPK41
set_option maxRecDepth 100000
set_option maxHeartbeats 16000000
namespace Go.Proofs.YtjghbciepinofaaGreat
open Go.Proofs.Tryz
open Value renaming int->J,slice->J1,pointer->J2,bool->J3,agg->J4
open IntKind renaming i64->I
open Obj renaming cells->J5
section
open Go.RowKit
def cl(n:Int):Int:=min (max n 0) 400000
theorem z2R(n:Int):(n<0/\cl n=0)∨(0<=n/\400000<n/\cl n=400000)∨(0<=n/\n<=400000/\cl n=n):=by
 unfold cl;omega
def Mid(w:World)(b k:Nat)(f0 f1 f2 f3 bo wa bu:Int):Prop:=
 BAt w b (if 3<k then cl f0 else f0) (if 4<k then cl f1 else f1) (if 5<k then cl f2 else f2) (if 6<k then cl f3 else f3) (if 0<k then cl bo else bo) (if 1<k then cl wa else wa) (if 2<k then cl bu else bu)
theorem z8U(f0 f1 f2 f3 bo wa bu:Int)(w:World) :
  Calls prog 119 #[J4 #[J I f0,J I f1,J I f2,J I f3,J I bo,J I wa,J I bu]] w
  fun e w'=>e=.returned (J4 #[J I (cl f0),J I (cl f1),J I (cl f2),J I (cl f3),J I (cl bo),J I (cl wa),J I (cl bu)])/\Bl w w':=by
 go_enter func119,ntmps119
 go_wp2_with fail
 refine (z6N _).mono ?_;rintro e w1⟨g,cap,c0,c1,c2,c3,rfl,P,h⟩;have j:=((BAt.new w f0 f1 f2 f3 bo wa bu).alloc (J5 #[J I 0,J I 0,J I 0,J I 0,J I 0,J I 0,J I 0] 24)).later h (by simp;omega)
 have l:BAt w1 (w.heap.size+1) 0 0 0 0 0 0 0:=by
  have:=(BAt.new (w.alloc (J5 #[J I f0,J I f1,J I f2,J I f3,J I bo,J I wa,J I bu] 24)) 0 0 0 0 0 0 0).later h (by simp)
  simpa using this
 have c:Hid (Bl w w1):=((znw w _).alloc (by simp) _).trans (h.mono (by simp;omega))
 have P':PL w1 (w.heap.size+2) g c0 c1 c2 c3:=by simpa using P
 clear P h;go_wp2
 go_loopw [8] (fun i wl=>∃ (k:Nat),k<=7/\i=J I (k:Int)/\Mid wl w.heap.size k f0 f1 f2 f3 bo wa bu/\PL wl (w.heap.size+2) g c0 c1 c2 c3/\BAt wl (w.heap.size+1) 0 0 0 0 0 0 0/\Hid (Bl w wl)) (fun i _=>(7 - intOf i).toNat)
 case atStart=>exact⟨0,by omega,rfl,j,P',l,c⟩
 case round =>
  clear j l c P';obtain⟨k,d,rfl,M,P,R,c⟩:=hrel
  rcases (show k=0∨k=1∨k=2∨k=3∨k=4∨k=5∨k=6∨k=7 by omega) with rfl | rfl | rfl | rfl | rfl | rfl | rfl | rfl
  ·have b:BAt wr w.heap.size f0 f1 f2 f3 bo wa bu:=M;have x:=b.cells.2.2.2.2.1;have y:=b.frees.2.2.2.2.1;have p:=P.p0
   have a:Hid (Mid (wr.setCell ⟨w.heap.size,4,none⟩ (J I (cl bo))) w.heap.size 1 f0 f1 f2 f3 bo wa bu/\PL (wr.setCell ⟨w.heap.size,4,none⟩ (J I (cl bo))) (w.heap.size+2) g c0 c1 c2 c3/\BAt (wr.setCell ⟨w.heap.size,4,none⟩ (J I (cl bo))) (w.heap.size+1) 0 0 0 0 0 0 0/\Bl w (wr.setCell ⟨w.heap.size,4,none⟩ (J I (cl bo)))):=
    ⟨b.q9g _,P.later (fun k d=>Below.heap_setCell _ _ _ _ (by simp;omega)),R.other (by omega) _,c.out.setCell (by simp) _⟩
   clear M b P R
   rcases z2R bo with⟨h1,e1⟩ | ⟨h1,h2,e1⟩ | ⟨h1,h2,e1⟩
   all_goals
    rw[e1]at a;clear e1
    go_wp2_with (go_at_call 122;refine (z1o _ _).mono ?_;rintro e f⟨rfl,rfl⟩)
    go_roundw
    case rel=>exact⟨1,by omega,by go_num,a.out.1,a.out.2.1.later (fun _ _=>rfl),a.out.2.2.1,a.out.2.2.2.trans ⟨rfl,rfl,rfl,Nat.le_refl _,fun _ _=>rfl⟩⟩
    case measure=>simp[intOf]
  ·have b:BAt wr w.heap.size f0 f1 f2 f3 (cl bo) wa bu:=M;have x:=b.cells.2.2.2.2.2.1;have y:=b.frees.2.2.2.2.2.1;have p:=P.p1
   have a:Hid (Mid (wr.setCell ⟨w.heap.size,5,none⟩ (J I (cl wa))) w.heap.size 2 f0 f1 f2 f3 bo wa bu/\PL (wr.setCell ⟨w.heap.size,5,none⟩ (J I (cl wa))) (w.heap.size+2) g c0 c1 c2 c3/\BAt (wr.setCell ⟨w.heap.size,5,none⟩ (J I (cl wa))) (w.heap.size+1) 0 0 0 0 0 0 0/\Bl w (wr.setCell ⟨w.heap.size,5,none⟩ (J I (cl wa)))):=
    ⟨b.q9A _,P.later (fun k d=>Below.heap_setCell _ _ _ _ (by simp;omega)),R.other (by omega) _,c.out.setCell (by simp) _⟩
   clear M b P R
   rcases z2R wa with⟨h1,e1⟩ | ⟨h1,h2,e1⟩ | ⟨h1,h2,e1⟩
   all_goals
    rw[e1]at a;clear e1
    go_wp2_with (go_at_call 123;refine (z1b _ _).mono ?_;rintro e f⟨rfl,rfl⟩)
    go_roundw
    case rel=>exact⟨2,by omega,by go_num,a.out.1,a.out.2.1.later (fun _ _=>rfl),a.out.2.2.1,a.out.2.2.2.trans ⟨rfl,rfl,rfl,Nat.le_refl _,fun _ _=>rfl⟩⟩
    case measure=>simp[intOf]
  ·have b:BAt wr w.heap.size f0 f1 f2 f3 (cl bo) (cl wa) bu:=M;have x:=b.cells.2.2.2.2.2.2;have y:=b.frees.2.2.2.2.2.2;have p:=P.p2
   have a:Hid (Mid (wr.setCell ⟨w.heap.size,6,none⟩ (J I (cl bu))) w.heap.size 3 f0 f1 f2 f3 bo wa bu/\PL (wr.setCell ⟨w.heap.size,6,none⟩ (J I (cl bu))) (w.heap.size+2) g c0 c1 c2 c3/\BAt (wr.setCell ⟨w.heap.size,6,none⟩ (J I (cl bu))) (w.heap.size+1) 0 0 0 0 0 0 0/\Bl w (wr.setCell ⟨w.heap.size,6,none⟩ (J I (cl bu)))):=
    ⟨b.q9o _,P.later (fun k d=>Below.heap_setCell _ _ _ _ (by simp;omega)),R.other (by omega) _,c.out.setCell (by simp) _⟩
   clear M b P R
   rcases z2R bu with⟨h1,e1⟩ | ⟨h1,h2,e1⟩ | ⟨h1,h2,e1⟩
   all_goals
    rw[e1]at a;clear e1
    go_wp2_with (go_at_call 124;refine (z3x _ _).mono ?_;rintro e f⟨rfl,rfl⟩)
    go_roundw
    case rel=>exact⟨3,by omega,by go_num,a.out.1,a.out.2.1.later (fun _ _=>rfl),a.out.2.2.1,a.out.2.2.2.trans ⟨rfl,rfl,rfl,Nat.le_refl _,fun _ _=>rfl⟩⟩
    case measure=>simp[intOf]
  ·have b:BAt wr w.heap.size f0 f1 f2 f3 (cl bo) (cl wa) (cl bu):=M;have x:=b.cells.1;have y:=b.frees.1;have p:=P.p3;have q:=P.q0
   have a:Hid (Mid (wr.setCell ⟨w.heap.size,0,none⟩ (J I (cl f0))) w.heap.size 4 f0 f1 f2 f3 bo wa bu/\PL (wr.setCell ⟨w.heap.size,0,none⟩ (J I (cl f0))) (w.heap.size+2) g c0 c1 c2 c3/\BAt (wr.setCell ⟨w.heap.size,0,none⟩ (J I (cl f0))) (w.heap.size+1) 0 0 0 0 0 0 0/\Bl w (wr.setCell ⟨w.heap.size,0,none⟩ (J I (cl f0)))):=
    ⟨b.z9e _,P.later (fun k d=>Below.heap_setCell _ _ _ _ (by simp;omega)),R.other (by omega) _,c.out.setCell (by simp) _⟩
   clear M b P R
   rcases z2R f0 with⟨h1,e1⟩ | ⟨h1,h2,e1⟩ | ⟨h1,h2,e1⟩
   all_goals
    rw[e1]at a;clear e1
    go_wp2_with (go_at_call 125;refine (z1d _ _ _ _ q (by decide) (by decide)).mono ?_;rintro e f⟨rfl,nq,rfl⟩)
    go_roundw
    case rel=>exact⟨4,by omega,by go_num,a.out.1,a.out.2.1.later (fun _ _=>rfl),a.out.2.2.1,a.out.2.2.2.trans ⟨rfl,rfl,rfl,Nat.le_refl _,fun _ _=>rfl⟩⟩
    case measure=>simp[intOf]
  ·have b:BAt wr w.heap.size (cl f0) f1 f2 f3 (cl bo) (cl wa) (cl bu):=M;have x:=b.cells.2.1;have y:=b.frees.2.1;have p:=P.p4;have q:=P.q1
   have a:Hid (Mid (wr.setCell ⟨w.heap.size,1,none⟩ (J I (cl f1))) w.heap.size 5 f0 f1 f2 f3 bo wa bu/\PL (wr.setCell ⟨w.heap.size,1,none⟩ (J I (cl f1))) (w.heap.size+2) g c0 c1 c2 c3/\BAt (wr.setCell ⟨w.heap.size,1,none⟩ (J I (cl f1))) (w.heap.size+1) 0 0 0 0 0 0 0/\Bl w (wr.setCell ⟨w.heap.size,1,none⟩ (J I (cl f1)))):=
    ⟨b.z8J _,P.later (fun k d=>Below.heap_setCell _ _ _ _ (by simp;omega)),R.other (by omega) _,c.out.setCell (by simp) _⟩
   clear M b P R
   rcases z2R f1 with⟨h1,e1⟩ | ⟨h1,h2,e1⟩ | ⟨h1,h2,e1⟩
   all_goals
    rw[e1]at a;clear e1
    go_wp2_with (go_at_call 125;refine (z1d _ _ _ _ q (by decide) (by decide)).mono ?_;rintro e f⟨rfl,nq,rfl⟩)
    go_roundw
    case rel=>exact⟨5,by omega,by go_num,a.out.1,a.out.2.1.later (fun _ _=>rfl),a.out.2.2.1,a.out.2.2.2.trans ⟨rfl,rfl,rfl,Nat.le_refl _,fun _ _=>rfl⟩⟩
    case measure=>simp[intOf]
  ·have b:BAt wr w.heap.size (cl f0) (cl f1) f2 f3 (cl bo) (cl wa) (cl bu):=M;have x:=b.cells.2.2.1;have y:=b.frees.2.2.1;have p:=P.p5;have q:=P.q2
   have a:Hid (Mid (wr.setCell ⟨w.heap.size,2,none⟩ (J I (cl f2))) w.heap.size 6 f0 f1 f2 f3 bo wa bu/\PL (wr.setCell ⟨w.heap.size,2,none⟩ (J I (cl f2))) (w.heap.size+2) g c0 c1 c2 c3/\BAt (wr.setCell ⟨w.heap.size,2,none⟩ (J I (cl f2))) (w.heap.size+1) 0 0 0 0 0 0 0/\Bl w (wr.setCell ⟨w.heap.size,2,none⟩ (J I (cl f2)))):=
    ⟨b.q5C _,P.later (fun k d=>Below.heap_setCell _ _ _ _ (by simp;omega)),R.other (by omega) _,c.out.setCell (by simp) _⟩
   clear M b P R
   rcases z2R f2 with⟨h1,e1⟩ | ⟨h1,h2,e1⟩ | ⟨h1,h2,e1⟩
   all_goals
    rw[e1]at a;clear e1
    go_wp2_with (go_at_call 125;refine (z1d _ _ _ _ q (by decide) (by decide)).mono ?_;rintro e f⟨rfl,nq,rfl⟩)
    go_roundw
    case rel=>exact⟨6,by omega,by go_num,a.out.1,a.out.2.1.later (fun _ _=>rfl),a.out.2.2.1,a.out.2.2.2.trans ⟨rfl,rfl,rfl,Nat.le_refl _,fun _ _=>rfl⟩⟩
    case measure=>simp[intOf]
  ·have b:BAt wr w.heap.size (cl f0) (cl f1) (cl f2) f3 (cl bo) (cl wa) (cl bu):=M;have x:=b.cells.2.2.2.1;have y:=b.frees.2.2.2.1;have p:=P.p6;have q:=P.q3
   have a:Hid (Mid (wr.setCell ⟨w.heap.size,3,none⟩ (J I (cl f3))) w.heap.size 7 f0 f1 f2 f3 bo wa bu/\PL (wr.setCell ⟨w.heap.size,3,none⟩ (J I (cl f3))) (w.heap.size+2) g c0 c1 c2 c3/\BAt (wr.setCell ⟨w.heap.size,3,none⟩ (J I (cl f3))) (w.heap.size+1) 0 0 0 0 0 0 0/\Bl w (wr.setCell ⟨w.heap.size,3,none⟩ (J I (cl f3)))):=
    ⟨b.q5U _,P.later (fun k d=>Below.heap_setCell _ _ _ _ (by simp;omega)),R.other (by omega) _,c.out.setCell (by simp) _⟩
   clear M b P R
   rcases z2R f3 with⟨h1,e1⟩ | ⟨h1,h2,e1⟩ | ⟨h1,h2,e1⟩
   all_goals
    rw[e1]at a;clear e1
    go_wp2_with (go_at_call 125;refine (z1d _ _ _ _ q (by decide) (by decide)).mono ?_;rintro e f⟨rfl,nq,rfl⟩)
    go_roundw
    case rel=>exact⟨7,by omega,by go_num,a.out.1,a.out.2.1.later (fun _ _=>rfl),a.out.2.2.1,a.out.2.2.2.trans ⟨rfl,rfl,rfl,Nat.le_refl _,fun _ _=>rfl⟩⟩
    case measure=>simp[intOf]
  ·have b:BAt wr w.heap.size (cl f0) (cl f1) (cl f2) (cl f3) (cl bo) (cl wa) (cl bu):=M;obtain⟨z,A,B,C,D,E,F⟩:=b.cells;obtain⟨y0,y1,y2,G,H,K,L⟩:=R.frees;obtain⟨N,Q,S,T,U,V,W⟩:=R.cells;have m:Hid (BAt (z2C wr (w.heap.size+1) (cl f0) (cl f1) (cl f2) (cl f3) (cl bo) (cl wa) (cl bu)) (w.heap.size+1) (cl f0) (cl f1) (cl f2) (cl f3) (cl bo) (cl wa) (cl bu)):=R.z2C _ _ _ _ _ _ _;have n:Hid (Bl w (z2C wr (w.heap.size+1) (cl f0) (cl f1) (cl f2) (cl f3) (cl bo) (cl wa) (cl bu))):=z0G c.out (by omega) _ _ _ _ _ _ _
   clear M b R P;go_wp2
   show bodyPost prog f119 _ Exit.ret _ (z2C wr (w.heap.size+1) (cl f0) (cl f1) (cl f2) (cl f3) (cl bo) (cl wa) (cl bu))
   obtain⟨o,u1,u2,r,s,t,u⟩:=m.out.cells;generalize z2C wr (w.heap.size+1) (cl f0) (cl f1) (cl f2) (cl f3) (cl bo) (cl wa) (cl bu)=w9 at *;exact bodyPost_ret (v:=J4 #[J I (cl f0),J I (cl f1),J I (cl f2),J I (cl f3),J I (cl bo),J I (cl wa),J I (cl bu)]) (by simp[results,results119,go_sem,o,u1,u2,r,s,t,u]) rfl ⟨rfl,n.out⟩
end
end Go.Proofs.YtjghbciepinofaaGreat
