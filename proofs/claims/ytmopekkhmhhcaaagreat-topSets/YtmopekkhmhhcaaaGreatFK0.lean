/- Parts of the proof. -/
import Derived.Test.YtmopekkhmhhcaaaGreatFL
import Derived.Test.YtmopekkhmhhcaaaGreatFK35
set_option maxRecDepth 100000
set_option maxHeartbeats 16000000
namespace Go.Proofs.YtmopekkhmhhcaaaGreat
open Go.Proofs.Tryz
section
open Go.RowKit
def cl(n:Int):Int:=min (max n 0) 400000
theorem z4n(n:Int):(n<0/\cl n=0)∨(0<=n/\400000<n/\cl n=400000)∨(0<=n/\n<=400000/\cl n=n):=by
 unfold cl;omega
def Mid(w:World)(b k:Nat)(f0 f1 f2 f3 bo wa bu:Int):Prop:=
 BAt w b (if 3<k then cl f0 else f0) (if 4<k then cl f1 else f1) (if 5<k then cl f2 else f2) (if 6<k then cl f3 else f3) (if 0<k then cl bo else bo) (if 1<k then cl wa else wa) (if 2<k then cl bu else bu)
theorem q2o(f0 f1 f2 f3 bo wa bu:Int)(w:World) :
  Calls prog 168 #[.agg #[.int .i64 f0,.int .i64 f1,.int .i64 f2,.int .i64 f3,.int .i64 bo,.int .i64 wa,.int .i64 bu]] w
  fun e w'=>e=.returned (.agg #[.int .i64 (cl f0),.int .i64 (cl f1),.int .i64 (cl f2),.int .i64 (cl f3),.int .i64 (cl bo),.int .i64 (cl wa),.int .i64 (cl bu)])/\Below w.heap.size w w':=by
 go_enter func168,ntmps168
 go_wp2_with fail
 refine (z9j _).mono ?_;rintro e w1⟨g,cap,c0,c1,c2,c3,rfl,P,hb⟩;have B1:=((BAt.new w f0 f1 f2 f3 bo wa bu).alloc (.cells #[.int .i64 0,.int .i64 0,.int .i64 0,.int .i64 0,.int .i64 0,.int .i64 0,.int .i64 0] 35)).later hb (by simp;omega)
 have R1:BAt w1 (w.heap.size+1) 0 0 0 0 0 0 0:=by
  have:=(BAt.new (w.alloc (.cells #[.int .i64 f0,.int .i64 f1,.int .i64 f2,.int .i64 f3,.int .i64 bo,.int .i64 wa,.int .i64 bu] 35)) 0 0 0 0 0 0 0).later hb (by simp)
  simpa using this
 have HB:Hid (Below w.heap.size w w1):=((znw w _).alloc (by simp) _).trans (hb.mono (by simp;omega))
 have P':PL w1 (w.heap.size+2) g c0 c1 c2 c3:=by simpa using P
 clear P hb;go_wp2
 go_loopw [8] (fun i wl=>∃ (k:Nat),k<=7/\i=.int .i64 (k:Int)/\Mid wl w.heap.size k f0 f1 f2 f3 bo wa bu/\PL wl (w.heap.size+2) g c0 c1 c2 c3/\BAt wl (w.heap.size+1) 0 0 0 0 0 0 0/\Hid (Below w.heap.size w wl)) (fun i _=>(7 - intOf i).toNat)
 case atStart=>exact⟨0,by omega,rfl,B1,P',R1,HB⟩
 case round =>
  clear B1 R1 HB P';obtain⟨k,hk,rfl,M,P,R,HB⟩:=hrel
  rcases (show k=0∨k=1∨k=2∨k=3∨k=4∨k=5∨k=6∨k=7 by omega) with rfl | rfl | rfl | rfl | rfl | rfl | rfl | rfl
  ·have M0:BAt wr w.heap.size f0 f1 f2 f3 bo wa bu:=M;have x:=M0.cells.2.2.2.2.1;have y:=M0.frees.2.2.2.2.1;have p:=P.p0
   have HM:Hid (Mid (wr.setCell ⟨w.heap.size,4,none⟩ (.int .i64 (cl bo))) w.heap.size 1 f0 f1 f2 f3 bo wa bu/\PL (wr.setCell ⟨w.heap.size,4,none⟩ (.int .i64 (cl bo))) (w.heap.size+2) g c0 c1 c2 c3/\BAt (wr.setCell ⟨w.heap.size,4,none⟩ (.int .i64 (cl bo))) (w.heap.size+1) 0 0 0 0 0 0 0/\Below w.heap.size w (wr.setCell ⟨w.heap.size,4,none⟩ (.int .i64 (cl bo)))):=
    ⟨M0.j9n _,P.later (fun k hk=>Below.heap_setCell _ _ _ _ (by simp;omega)),R.other (by omega) _,HB.out.setCell (by simp) _⟩
   clear M M0 P R
   rcases z4n bo with⟨h1,e1⟩ | ⟨h1,h2,e1⟩ | ⟨h1,h2,e1⟩
   all_goals
    rw[e1]at HM;clear e1
    go_wp2_with (go_at_call 173;refine (z1v _ _).mono ?_;rintro e w2⟨rfl,rfl⟩)
    go_roundw
    case rel=>exact⟨1,by omega,by go_num,HM.out.1,HM.out.2.1.later (fun _ _=>rfl),HM.out.2.2.1,HM.out.2.2.2.trans ⟨rfl,rfl,rfl,Nat.le_refl _,fun _ _=>rfl⟩⟩
    case measure=>simp[intOf]
  ·have M0:BAt wr w.heap.size f0 f1 f2 f3 (cl bo) wa bu:=M;have x:=M0.cells.2.2.2.2.2.1;have y:=M0.frees.2.2.2.2.2.1;have p:=P.p1
   have HM:Hid (Mid (wr.setCell ⟨w.heap.size,5,none⟩ (.int .i64 (cl wa))) w.heap.size 2 f0 f1 f2 f3 bo wa bu/\PL (wr.setCell ⟨w.heap.size,5,none⟩ (.int .i64 (cl wa))) (w.heap.size+2) g c0 c1 c2 c3/\BAt (wr.setCell ⟨w.heap.size,5,none⟩ (.int .i64 (cl wa))) (w.heap.size+1) 0 0 0 0 0 0 0/\Below w.heap.size w (wr.setCell ⟨w.heap.size,5,none⟩ (.int .i64 (cl wa)))):=
    ⟨M0.j9Q _,P.later (fun k hk=>Below.heap_setCell _ _ _ _ (by simp;omega)),R.other (by omega) _,HB.out.setCell (by simp) _⟩
   clear M M0 P R
   rcases z4n wa with⟨h1,e1⟩ | ⟨h1,h2,e1⟩ | ⟨h1,h2,e1⟩
   all_goals
    rw[e1]at HM;clear e1
    go_wp2_with (go_at_call 174;refine (z1h _ _).mono ?_;rintro e w2⟨rfl,rfl⟩)
    go_roundw
    case rel=>exact⟨2,by omega,by go_num,HM.out.1,HM.out.2.1.later (fun _ _=>rfl),HM.out.2.2.1,HM.out.2.2.2.trans ⟨rfl,rfl,rfl,Nat.le_refl _,fun _ _=>rfl⟩⟩
    case measure=>simp[intOf]
  ·have M0:BAt wr w.heap.size f0 f1 f2 f3 (cl bo) (cl wa) bu:=M;have x:=M0.cells.2.2.2.2.2.2;have y:=M0.frees.2.2.2.2.2.2;have p:=P.p2
   have HM:Hid (Mid (wr.setCell ⟨w.heap.size,6,none⟩ (.int .i64 (cl bu))) w.heap.size 3 f0 f1 f2 f3 bo wa bu/\PL (wr.setCell ⟨w.heap.size,6,none⟩ (.int .i64 (cl bu))) (w.heap.size+2) g c0 c1 c2 c3/\BAt (wr.setCell ⟨w.heap.size,6,none⟩ (.int .i64 (cl bu))) (w.heap.size+1) 0 0 0 0 0 0 0/\Below w.heap.size w (wr.setCell ⟨w.heap.size,6,none⟩ (.int .i64 (cl bu)))):=
    ⟨M0.j8o _,P.later (fun k hk=>Below.heap_setCell _ _ _ _ (by simp;omega)),R.other (by omega) _,HB.out.setCell (by simp) _⟩
   clear M M0 P R
   rcases z4n bu with⟨h1,e1⟩ | ⟨h1,h2,e1⟩ | ⟨h1,h2,e1⟩
   all_goals
    rw[e1]at HM;clear e1
    go_wp2_with (go_at_call 195;refine (z4Y _ _).mono ?_;rintro e w2⟨rfl,rfl⟩)
    go_roundw
    case rel=>exact⟨3,by omega,by go_num,HM.out.1,HM.out.2.1.later (fun _ _=>rfl),HM.out.2.2.1,HM.out.2.2.2.trans ⟨rfl,rfl,rfl,Nat.le_refl _,fun _ _=>rfl⟩⟩
    case measure=>simp[intOf]
  ·have M0:BAt wr w.heap.size f0 f1 f2 f3 (cl bo) (cl wa) (cl bu):=M;have x:=M0.cells.1;have y:=M0.frees.1;have p:=P.p3;have q:=P.q0
   have HM:Hid (Mid (wr.setCell ⟨w.heap.size,0,none⟩ (.int .i64 (cl f0))) w.heap.size 4 f0 f1 f2 f3 bo wa bu/\PL (wr.setCell ⟨w.heap.size,0,none⟩ (.int .i64 (cl f0))) (w.heap.size+2) g c0 c1 c2 c3/\BAt (wr.setCell ⟨w.heap.size,0,none⟩ (.int .i64 (cl f0))) (w.heap.size+1) 0 0 0 0 0 0 0/\Below w.heap.size w (wr.setCell ⟨w.heap.size,0,none⟩ (.int .i64 (cl f0)))):=
    ⟨M0.q9n _,P.later (fun k hk=>Below.heap_setCell _ _ _ _ (by simp;omega)),R.other (by omega) _,HB.out.setCell (by simp) _⟩
   clear M M0 P R
   rcases z4n f0 with⟨h1,e1⟩ | ⟨h1,h2,e1⟩ | ⟨h1,h2,e1⟩
   all_goals
    rw[e1]at HM;clear e1
    go_wp2_with (go_at_call 172;refine (z1i _ _ _ _ q (by decide) (by decide)).mono ?_;rintro e w2⟨rfl,nq,rfl⟩)
    go_roundw
    case rel=>exact⟨4,by omega,by go_num,HM.out.1,HM.out.2.1.later (fun _ _=>rfl),HM.out.2.2.1,HM.out.2.2.2.trans ⟨rfl,rfl,rfl,Nat.le_refl _,fun _ _=>rfl⟩⟩
    case measure=>simp[intOf]
  ·have M0:BAt wr w.heap.size (cl f0) f1 f2 f3 (cl bo) (cl wa) (cl bu):=M;have x:=M0.cells.2.1;have y:=M0.frees.2.1;have p:=P.p4;have q:=P.q1
   have HM:Hid (Mid (wr.setCell ⟨w.heap.size,1,none⟩ (.int .i64 (cl f1))) w.heap.size 5 f0 f1 f2 f3 bo wa bu/\PL (wr.setCell ⟨w.heap.size,1,none⟩ (.int .i64 (cl f1))) (w.heap.size+2) g c0 c1 c2 c3/\BAt (wr.setCell ⟨w.heap.size,1,none⟩ (.int .i64 (cl f1))) (w.heap.size+1) 0 0 0 0 0 0 0/\Below w.heap.size w (wr.setCell ⟨w.heap.size,1,none⟩ (.int .i64 (cl f1)))):=
    ⟨M0.q7w _,P.later (fun k hk=>Below.heap_setCell _ _ _ _ (by simp;omega)),R.other (by omega) _,HB.out.setCell (by simp) _⟩
   clear M M0 P R
   rcases z4n f1 with⟨h1,e1⟩ | ⟨h1,h2,e1⟩ | ⟨h1,h2,e1⟩
   all_goals
    rw[e1]at HM;clear e1
    go_wp2_with (go_at_call 172;refine (z1i _ _ _ _ q (by decide) (by decide)).mono ?_;rintro e w2⟨rfl,nq,rfl⟩)
    go_roundw
    case rel=>exact⟨5,by omega,by go_num,HM.out.1,HM.out.2.1.later (fun _ _=>rfl),HM.out.2.2.1,HM.out.2.2.2.trans ⟨rfl,rfl,rfl,Nat.le_refl _,fun _ _=>rfl⟩⟩
    case measure=>simp[intOf]
  ·have M0:BAt wr w.heap.size (cl f0) (cl f1) f2 f3 (cl bo) (cl wa) (cl bu):=M;have x:=M0.cells.2.2.1;have y:=M0.frees.2.2.1;have p:=P.p5;have q:=P.q2
   have HM:Hid (Mid (wr.setCell ⟨w.heap.size,2,none⟩ (.int .i64 (cl f2))) w.heap.size 6 f0 f1 f2 f3 bo wa bu/\PL (wr.setCell ⟨w.heap.size,2,none⟩ (.int .i64 (cl f2))) (w.heap.size+2) g c0 c1 c2 c3/\BAt (wr.setCell ⟨w.heap.size,2,none⟩ (.int .i64 (cl f2))) (w.heap.size+1) 0 0 0 0 0 0 0/\Below w.heap.size w (wr.setCell ⟨w.heap.size,2,none⟩ (.int .i64 (cl f2)))):=
    ⟨M0.q9D _,P.later (fun k hk=>Below.heap_setCell _ _ _ _ (by simp;omega)),R.other (by omega) _,HB.out.setCell (by simp) _⟩
   clear M M0 P R
   rcases z4n f2 with⟨h1,e1⟩ | ⟨h1,h2,e1⟩ | ⟨h1,h2,e1⟩
   all_goals
    rw[e1]at HM;clear e1
    go_wp2_with (go_at_call 172;refine (z1i _ _ _ _ q (by decide) (by decide)).mono ?_;rintro e w2⟨rfl,nq,rfl⟩)
    go_roundw
    case rel=>exact⟨6,by omega,by go_num,HM.out.1,HM.out.2.1.later (fun _ _=>rfl),HM.out.2.2.1,HM.out.2.2.2.trans ⟨rfl,rfl,rfl,Nat.le_refl _,fun _ _=>rfl⟩⟩
    case measure=>simp[intOf]
  ·have M0:BAt wr w.heap.size (cl f0) (cl f1) (cl f2) f3 (cl bo) (cl wa) (cl bu):=M;have x:=M0.cells.2.2.2.1;have y:=M0.frees.2.2.2.1;have p:=P.p6;have q:=P.q3
   have HM:Hid (Mid (wr.setCell ⟨w.heap.size,3,none⟩ (.int .i64 (cl f3))) w.heap.size 7 f0 f1 f2 f3 bo wa bu/\PL (wr.setCell ⟨w.heap.size,3,none⟩ (.int .i64 (cl f3))) (w.heap.size+2) g c0 c1 c2 c3/\BAt (wr.setCell ⟨w.heap.size,3,none⟩ (.int .i64 (cl f3))) (w.heap.size+1) 0 0 0 0 0 0 0/\Below w.heap.size w (wr.setCell ⟨w.heap.size,3,none⟩ (.int .i64 (cl f3)))):=
    ⟨M0.q9f _,P.later (fun k hk=>Below.heap_setCell _ _ _ _ (by simp;omega)),R.other (by omega) _,HB.out.setCell (by simp) _⟩
   clear M M0 P R
   rcases z4n f3 with⟨h1,e1⟩ | ⟨h1,h2,e1⟩ | ⟨h1,h2,e1⟩
   all_goals
    rw[e1]at HM;clear e1
    go_wp2_with (go_at_call 172;refine (z1i _ _ _ _ q (by decide) (by decide)).mono ?_;rintro e w2⟨rfl,nq,rfl⟩)
    go_roundw
    case rel=>exact⟨7,by omega,by go_num,HM.out.1,HM.out.2.1.later (fun _ _=>rfl),HM.out.2.2.1,HM.out.2.2.2.trans ⟨rfl,rfl,rfl,Nat.le_refl _,fun _ _=>rfl⟩⟩
    case measure=>simp[intOf]
  ·have M0:BAt wr w.heap.size (cl f0) (cl f1) (cl f2) (cl f3) (cl bo) (cl wa) (cl bu):=M;obtain⟨x0,x1,x2,x3,x4,x5,x6⟩:=M0.cells;obtain⟨y0,y1,y2,y3,y4,y5,y6⟩:=R.frees;obtain⟨z0,z1,z2,z3,z4,z5,z6⟩:=R.cells;have HR:Hid (BAt (z6Y wr (w.heap.size+1) (cl f0) (cl f1) (cl f2) (cl f3) (cl bo) (cl wa) (cl bu)) (w.heap.size+1) (cl f0) (cl f1) (cl f2) (cl f3) (cl bo) (cl wa) (cl bu)):=R.z6Y _ _ _ _ _ _ _;have HW:Hid (Below w.heap.size w (z6Y wr (w.heap.size+1) (cl f0) (cl f1) (cl f2) (cl f3) (cl bo) (cl wa) (cl bu))):=z3i HB.out (by omega) _ _ _ _ _ _ _
   clear M M0 R P;go_wp2
   show bodyPost prog f168 _ Exit.ret _ (z6Y wr (w.heap.size+1) (cl f0) (cl f1) (cl f2) (cl f3) (cl bo) (cl wa) (cl bu))
   obtain⟨u0,u1,u2,u3,u4,u5,u6⟩:=HR.out.cells;generalize z6Y wr (w.heap.size+1) (cl f0) (cl f1) (cl f2) (cl f3) (cl bo) (cl wa) (cl bu)=w9 at *;exact bodyPost_ret (v:=.agg #[.int .i64 (cl f0),.int .i64 (cl f1),.int .i64 (cl f2),.int .i64 (cl f3),.int .i64 (cl bo),.int .i64 (cl wa),.int .i64 (cl bu)]) (by simp[results,results168,go_sem,u0,u1,u2,u3,u4,u5,u6]) rfl ⟨rfl,HW.out⟩
end
end Go.Proofs.YtmopekkhmhhcaaaGreat
