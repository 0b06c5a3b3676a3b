/- Parts of the proof. -/
import Derived.Test.YtjghbciepinofaaGreatPL
import Derived.Test.YtjghbciepinofaaGreatPK25
set_option maxRecDepth 100000
set_option maxHeartbeats 16000000
namespace Go.Proofs.YtjghbciepinofaaGreat
open Go.Proofs.Tryz
open Value renaming int->J,slice->J1,pointer->J2,bool->J3,agg->J4
open IntKind renaming i64->I
open Obj renaming cells->J5
namespace Pv
open Go.RowKit
def q9F(P:Nat->Prop)(w:World)(r:Pr×List Int×Int)(e:Ending)(w':World):Prop:=∃ a u,e=.returned (.tuple #[J4 (prC r.1 a),u,J I r.2.2])/\PIn (New P w 2) w' r.1 a/\Rep (New P w 2) w' u 1 8 (inC r.2.1)/\Bl w w'
theorem z7D{f:Func}{p q u:Tmp}(h:f.results=#[.cell p 47,.tmp q,.tmp u])(a:Array Value)(w:World)(g:Nat)(cs:Array Value)(v v2:Value)
  (i:a.getD p undef=J2 (some ⟨g,0,none⟩)) (hq:a.getD q undef=v) (hu:a.getD u undef=v2) (j:CAt 47 w g cs) (b:cs.size=97) :
  (results f a).run prog w=.ok (.tuple #[J4 cs,v,v2]) w:=by
 have c:a[p]?.getD undef=J2 (some ⟨g,0,none⟩):=by simpa using i
 have d:a[q]?.getD undef=v:=by simpa using hq
 have e:a[u]?.getD undef=v2:=by simpa using hu
 simp[results,h,c,d,e,asAddr,run_loadVar_row w g 47 47 cs (0,0) _ j underlying47 rfl (by rw[z4g,b])]
theorem z4l{f:Func}{t q y:Tmp}(a:f.results=#[.cell t 47,.tmp q,.tmp y]){P:Nat->Prop}{w wq:World}{g:Array Value}(R:CAt 47 wq (w.heap.size+1) g)(h:g.size=97)(H:Bl w wq)(b:Pr)(c:PrV)(u:Value)(l:List Int)(d:Int)(r:Pr×List Int×Int)(i:r=(b,l,d))(j:PIn (New P w 2) wq b c)(hu:Rep (New P w 2) wq u 1 8 (inC l))(act:Act)
  (k:act.tmps.getD t undef=J2 (some ⟨w.heap.size+1,0,none⟩)) (m:act.tmps.getD q undef=u) (e:act.tmps.getD y undef=J I d) (hd:act.defers=[]) :
  bodyPost prog f (q9F P w r) Exit.ret act (wq.setCells (w.heap.size+1) 0 (prC b c).toList):=by
 subst i;have n:=R.z0C (ds:=prC b c) (by rw[h];rfl)
 exact bodyPost_ret (v:=.tuple #[J4 (prC b c),u,J I d]) (z7D a _ _ _ _ _ _ k m e n rfl) hd ⟨c,u,rfl,j.sets (q0w (by omega)) _ _,hu.sets (q0w (by omega)) _ _,z0b (Nat.le_succ _) _ _ _ H⟩
def Turns(w:World)(g:Nat)(P:Nat->Prop)(a:Pr)(e:Ending)(w':World):Prop:=∃ b,e=.returned (.tuple #[])/\CAt 47 w' g (prC a b)/\PIn (New P w 0) w' a b/\Alt g w w'
theorem z1t{P:Nat->Prop}{w:World}{g:Nat}(a:¬ P g)(b:g<w.heap.size):¬ New P w 0 g:=fun h=>by
 rcases h with⟨h,_⟩ | h
 ·exact a h
 ·omega
theorem q8Y(p:Pr)(v:PrV)(x:Int):(prC p v).setIfInBounds 0 (J I x)=prC { p with h:=x } v:=rfl
theorem q9s(p:Pr)(v:PrV)(x:Int):(prC p v).setIfInBounds 1 (J I x)=prC { p with t:=x } v:=rfl
theorem q6C(p:Pr)(v:PrV)(x:Int):(prC p v).setIfInBounds 94 (J I x)=prC { p with ml:=x } v:=rfl
theorem q6E(p:Pr)(v:PrV)(x:Int):(prC p v).setIfInBounds 95 (J I x)=prC { p with mn:=x } v:=rfl
def Nx(P:Nat->Prop)(w:World)(g b:Nat):Prop:=(P b/\b<w.heap.size)∨(w.heap.size+2<=b/\b≠g)
theorem q3g{P:Nat->Prop}{w:World}{g:Nat}(a:w.heap.size<=g):¬ Nx P w g g:=fun h=>by
 rcases h with⟨_,h⟩ | ⟨_,h⟩
 ·omega
 ·exact h rfl
theorem q9l{P:Nat->Prop}{w wl:World}{g b:Nat}(a:w.heap.size+2<=wl.heap.size)(c:g<wl.heap.size)(h:New (Nx P w g) wl 0 b):Nx P w g b:=by
 rcases h with⟨h,_⟩ | h
 ·exact h
 ·exact .inr ⟨by omega,by omega⟩
theorem q6F{P:Nat->Prop}{w:World}{g b:Nat}(h:Nx P w g b):New P w 2 b:=by
 rcases h with h | h
 ·exact .inl h
 ·exact .inr h.1
theorem PIn.nx{P:Nat->Prop}{w w':World}{p:Pr}{v:PrV}(h:PIn P w p v)(a:Bl w w')(g:Nat):PIn (Nx P w g) w' p v:=(h.mono (P':=fun b=>Nx P w g b/\b<w.heap.size) fun _ hl c=>⟨.inl ⟨c,hl⟩,hl⟩).over a |>.mono fun _ _ h=>h.1
theorem q0m(l:List (Int×Int)):Mt.I64 (Df.z6c l):=by
 have key:∀ (l:List (Int×Int)) (a:Int),Mt.I64 a->Mt.I64 (l.foldl (fun s x=>(s+x.2+9223372036854775808) % 18446744073709551616 - 9223372036854775808) a):=by
  intro l
  induction l with
  | nil=>exact fun a h=>h
  | cons x l ih=>exact fun a _=>ih _ (by show Mt.I64 ((a+x.2+9223372036854775808) % 18446744073709551616 - 9223372036854775808);unfold Mt.I64;omega)
 exact key l 0 (by unfold Mt.I64;omega)
def q6D(a v:Value):Sem Unit:=Instr.storeAt 33 a v
theorem z8n(a v:Value):Instr.storeAt 33 a v=q6D a v:=rfl
theorem z7J{w:World}{b o:Nat}{u v:Value}(a:∃ A n C,v=J1 A n C)(c:w.cell? ⟨b,o,none⟩=some u)(d:w.frozen? ⟨b,o,none⟩=false):(q6D (J2 (some ⟨b,o,none⟩)) v).run prog w=.ok () (w.setCell ⟨b,o,none⟩ v):=by
 obtain⟨A,n,C,rfl⟩:=a;change (Instr.storeAt 33 _ _).run prog w=_;go_simp
attribute [local go_sem ↓] z8n
attribute [local go_sem ↓] z0O z1c z0J z0L
theorem q3o(p:Pr)(v:PrV)(P:Nat->Prop)(w:World)(now:Int)(hp:PIn P w p v)(q0 q1 q2:Pr)
  (HQ:z1s p=true->isT now=true->p.t<=now->∀ (g:Nat) (v:PrV) (wx:World) (P':Nat->Prop),CAt 47 wx g (prC (z0Z p now) v)->PIn P' wx (z0Z p now) v->¬ P' g->Calls prog 30 #[J2 (some ⟨g,0,none⟩)] wx (Turns wx g P' (z0H (z0Z p now))))
  (c7:z1s p=true->z0j (z0H (z0Z p now)).s=true)
  (HT:z1s p=true->isT now=true->p.t<=now->∀ (c:Nat),c<2->∀ (g:Nat) (v:PrV) (wx:World) (P':Nat->Prop),CAt 47 wx g (prC (if c=0 then q0 else q1) v)->PIn P' wx (if c=0 then q0 else q1) v->¬ P' g->Calls prog 32 #[J2 (some ⟨g,0,none⟩),J2 (some ⟨g,66+c * 14,none⟩)] wx (Turns wx g P' (if c=0 then q1 else q2)))
  (a3:q0=z3X (z0H (z0Z p now)) now) (c8:q1=z1B q0 0) (c9:q2=z1B q1 1) :
  Calls prog 9 #[J4 (prC p v),.int .i64 now] w (q9F P w (endP p now)):=by
 have hD:endP p now=if z1s p=true/\isT now=true/\p.t<=now then (q2,z0D now (z0H (z0Z p now)).s.W,0) else (p,[],2):=by unfold endP;rw[c9,c8,a3]
 generalize endP p now=D at *;have HD:=J6 hD;clear hD c8 c9;have C:=z2y hp;have S:=J6 (fun (wx:World) (r:Bl w wx)=>z5x p v P wx (hp.over r));have HN:=J6 (fun (wx:World) (r:Bl w wx)=>hp.z2w r 2);have HP:=J6 hp;have E:=J6 HQ;have F:=J6 HT;have H:=J6 c7;have a4:=J6 a3
 have a5:Hid (z1s p=true->0<=p.h/\p.h<=1099511627775):=fun h=>by
  unfold z1s at h;simp only[Bool.and_eq_true,decide_eq_true_eq]at h;exact⟨h.1.1.1.1.1.1.2,h.1.1.1.1.1.2⟩
 clear hp HQ HT c7 a3;generalize z1s p=G at *
 go_enter func9,ntmps9
 go_upto_region 1 with fail
 change Code.wp prog _ _ _ ((w.alloc (J5 (prC p v) 47)).alloc (J5 zeroCells47 47));have C0:CAt 47 ((w.alloc (J5 (prC p v) 47)).alloc (J5 zeroCells47 47)) w.heap.size (prC p v):=(CAt.new _ w _).alloc _;have R0:CAt 47 ((w.alloc (J5 (prC p v) 47)).alloc (J5 zeroCells47 47)) (w.heap.size+1) zeroCells47:=CAt.new2 _ w _ _;have B0:Bl w ((w.alloc (J5 (prC p v) 47)).alloc (J5 zeroCells47 47)):=(znw w _).alloc (by simp) _
 generalize (w.alloc (J5 (prC p v) 47)).alloc (J5 zeroCells47 47)=w0 at *;have l0:=z0t C0 (z0c _ _);have A:=J6 (show _/\_/\_ from⟨C0,R0,B0⟩);clear C0 R0 B0
 by_cases T:G=true/\isT now=true/\p.t<=now
 ·obtain⟨rfl,a6,a7⟩:=T;replace HD:=J6 (HD.out.trans (if_pos ⟨rfl,a6,a7⟩));obtain⟨k5,k6⟩:=a5.out rfl;replace E:=J6 (E.out rfl a6 a7);replace F:=J6 (F.out rfl a6 a7);replace H:=J6 (H.out rfl);clear a5
  go_upto_region 3 with (first
   | (go_at_call 10;refine (S.out _ A.out.2.2).mono ?_;rintro e w1⟨rfl,j⟩;clear l0;have a1:w1.cell? ⟨w.heap.size,1,none⟩=some (.int .i64 p.t):=(A.out.1.over j).cell 1)
   | (go_at_call 27;refine (z4b _ _).mono ?_;rintro e w'⟨rfl,rfl⟩))
  have C1:=A.out.1.over j;have R1:=A.out.2.1.over j;have B1:=zbt A.out.2.2 j;have l1:=z0t C1 (z0c _ _);have s1:=z0z (CAt.new 47 w1 zeroCells47) z0h (z0c p v) C;have H1:=J6 (show _/\_/\_ from⟨C1,R1,B1⟩);have j5:=R1.lt;clear C1 R1 B1 j A S a1
  go_upto_region 4 with fail
  have U:Bl w1 ((w1.alloc (J5 zeroCells47 47)).setCells w1.heap.size 0 (prC p v).toList):=z0b (Nat.le_refl _) _ _ _ (znw w1 _);have N2:CAt 47 ((w1.alloc (J5 zeroCells47 47)).setCells w1.heap.size 0 (prC p v).toList) w1.heap.size (prC p v):=(CAt.new 47 w1 zeroCells47).z0C (by rw[z0h];rfl)
  have C2:=H1.out.1.over U;have R2:=H1.out.2.1.over U;have B2:=zbt H1.out.2.2 U;clear U l1 s1;generalize (w1.alloc (J5 zeroCells47 47)).setCells w1.heap.size 0 (prC p v).toList=w2 at *;generalize w1.heap.size=gn at *;have n0:w2.cell? ⟨gn,0,none⟩=some (.int .i64 p.h):=N2.cell 0;have n1:w2.cell? ⟨gn,1,none⟩=some (.int .i64 p.t):=N2.cell 1;have h6:=N2.free 0;have h7:=N2.free 1;have N4:=(N2.set 0 (.int .i64 (p.h+1))).set 1 (.int .i64 now);rw[q8Y,q9s]at N4;have C4:=(C2.other (c:=gn) (o:=0) (by omega) (.int .i64 (p.h+1))).other (c:=gn) (o:=1) (by omega) (.int .i64 now)
  have R4:=(R2.other (c:=gn) (o:=0) (by omega) (.int .i64 (p.h+1))).other (c:=gn) (o:=1) (by omega) (.int .i64 now)
  have B4:=(B2.setCell (p:=⟨gn,0,none⟩) (by show _<=gn;omega) (.int .i64 (p.h+1))).setCell (p:=⟨gn,1,none⟩) (by show _<=gn;omega) (.int .i64 now)
  have j6:=N2.lt;clear C2 R2 B2 N2
  go_upto_region 6 with fail
  clear n0 n1 h6 h7;generalize (w2.setCell ⟨gn,0,none⟩ (.int .i64 (p.h+1))).setCell ⟨gn,1,none⟩ (.int .i64 now)=w4 at *;obtain⟨⟨-,-,h8,h9,i0,-⟩,-⟩:=z0E C4;have i1:w4.cell? ⟨gn,94,none⟩=some (.int .i64 p.ml):=N4.cell 94;have i2:w4.cell? ⟨gn,95,none⟩=some (.int .i64 p.mn):=N4.cell 95;have i3:=N4.free 94;have i4:=N4.free 95;have i5:=C4.lt;have i6:=N4.lt;have d0:=J6 (fun (wx:World) (r:Bl w wx)=>q8H (HP.out.set.over r));have H4:=J6 (show _/\_/\_/\_ from⟨N4,C4,R4,B4⟩);clear N4 C4 R4 B4 H1;have d1:=J6 (q0m p.set);have d2:Hid (z0Z p now={ p with h:=p.h+1,t:=now,ml:=if now<p.mn then p.ml else Mt.alw (Df.z6c p.set),mn:=if now<p.mn then p.mn else wrap64 (now+10) }):=rfl
  have d3:=J6 (fun (wx:World)=>Mt.q2P p.ml p.mn (Df.z6c p.set) now d1.out wx);generalize Df.z6c p.set=al at *;generalize (if now<p.mn then p.ml else Mt.alw al)=ml' at *;generalize (if now<p.mn then p.mn else wrap64 (now+10))=mn' at *;apply z2d (fun w'=>∃ w6,w'=(w6.setCell ⟨gn,94,none⟩ (.int .i64 ml')).setCell ⟨gn,95,none⟩ (.int .i64 mn')/\Bl w4 w6)
  ·refine wp_region_noPanic ?_
   go_region_with (first
    | (go_at_call 29;refine (d0.out _ (by exact H4.out.2.2.2.drew)).mono ?_;rintro e w5⟨rfl,a8⟩;obtain⟨⟨-,-,k7,k8,k9,-⟩,-⟩:=z0E (H4.out.2.1.over ((Below.refl _ _).drew.trans a8)))
    | (go_at_call 28;refine (d3.out _).mono ?_;rintro e w6⟨rfl,d4⟩;have N6:=(H4.out.1.over ((Below.refl _ _).drew.trans a8)).over d4;have l4:w6.cell? ⟨gn,94,none⟩=some (.int .i64 p.ml):=N6.cell 94;have l5:w6.cell? ⟨gn,95,none⟩=some (.int .i64 p.mn):=N6.cell 95;have j7:=N6.free 94;have j8:=N6.free 95;have l6:=N6.lt;clear N6))
   all_goals
    have i7:=(Below.refl w4.heap.size w4).drew.trans a8;exact NoPanic.normal ⟨rfl,rfl,_,rfl,zbt i7 d4⟩
  rintro w'⟨w6,rfl,b6⟩;have N7:=((H4.out.1.over b6).set 94 (.int .i64 ml')).set 95 (.int .i64 mn');rw[q6C,q6E]at N7;have R7:=((H4.out.2.2.1.over b6).other (c:=gn) (o:=94) (by omega) (.int .i64 ml')).other (c:=gn) (o:=95) (by omega) (.int .i64 mn')
  have C7:=((H4.out.2.1.over b6).other (c:=gn) (o:=94) (by omega) (.int .i64 ml')).other (c:=gn) (o:=95) (by omega) (.int .i64 mn')
  have B7:=((zbt H4.out.2.2.2 b6).setCell (p:=⟨gn,94,none⟩) (by show _<=gn;omega) (.int .i64 ml')).setCell (p:=⟨gn,95,none⟩) (by show _<=gn;omega) (.int .i64 mn')
  have K:=HP.out.nx B7 gn;have d5:PIn (Nx P w gn) _ (z0Z p now) v:=⟨K.ws,K.set,K.lk,K.q⟩;clear K;rw[<- d2.out]at N7;clear b6 H4 h8 h9 i0 i1 i2 i3 i4 i5 i6 d0 d1 d3 d2;generalize (w6.setCell ⟨gn,94,none⟩ (.int .i64 ml')).setCell ⟨gn,95,none⟩ (.int .i64 mn')=w7 at *;have d6:=J6 (E.out gn v w7 (Nx P w gn) N7 d5 (q3g (by omega)))
  have H7:=J6 (show _/\_/\_ from⟨C7,R7,B7⟩);have i8:=N7.lt;have l7:=R7.lt;have d7:=H.out;clear N7 R7 B7 C7 d5 E H;generalize z0H (z0Z p now)=p2 at *;simp only[Exit.then];apply_assumption
  go_upto_region 8 with (go_at_call 30;refine d6.out.mono ?_;rintro e w8⟨v8,rfl,C8,P8,A8⟩)
  have R8:=A8.cat (b:=w.heap.size+1) (by omega) H7.out.2.1
  have B8:=H7.out.2.2.trans (A8.below (by omega) H7.out.2.2.size)
  have l8:=A8.size;have a9:PIn (Nx P w gn) w8 p2 v8:=P8.mono fun b _ r=>q9l (by omega) i8 r
  have m8:=z1f C8;have d8:=J6 (q9p a9.ws now d7);have H8:=J6 (show _/\_/\_/\_ from⟨C8,R8,B8,a9⟩);have l9:=C8.lt;clear P8 a9 A8 C8 R8 B8 d6 H7;have i9:=(q0a d7 now).good;have d9:=J6 (fun (u:Value) (wx:World)=>q9N (z3e p2.s now) u wx i9);have j0:=J6 (q0h (z3e p2.s now).V);have L:Hid (q0={ p2 with s:=z3e p2.s now,set:=z4Y (z3e p2.s now).V }):=a4.out
  clear a4;generalize z3e p2.s now=s3 at *;generalize z4Y s3.V=st3 at *
  go_upto_region 9 with (go_at_call 31;refine d8.out.mono ?_;rintro e w9⟨m,x9,rfl,U9,X9,b4⟩;clear m8;have a0:=z3h s3 U9.one';have e0:=z7I (CAt.new 32 w9 Z63) rfl (z0d s3 m) a0;unfold Z63 at e0)
  change Code.wp prog _ _ _ ((w9.alloc (J5 Z63 32)).setCells w9.heap.size 0 (stC s3 m).toList);have U:Bl w9 ((w9.alloc (J5 Z63 32)).setCells w9.heap.size 0 (stC s3 m).toList):=z0b (Nat.le_refl _) _ _ _ (znw w9 _);have X:CAt 32 ((w9.alloc (J5 Z63 32)).setCells w9.heap.size 0 (stC s3 m).toList) w9.heap.size (stC s3 m):=(CAt.new 32 w9 Z63).z0C rfl;have M:=zbt b4 U;have e3:=H8.out.1.over M;have e4:=H8.out.2.1.over M;have e5:=zbt H8.out.2.2.1 M;have e6:=H8.out.2.2.2.over M;have e7:=U9.over U;have e8:=X9.over U;have m0:=b4.size;clear U M e0 b4 U9 X9 H8 d8;generalize (w9.alloc (J5 Z63 32)).setCells w9.heap.size 0 (stC s3 m).toList=w10 at *;have j9:=X.lt;generalize w9.heap.size=tb at *;have l:=J6 (show _/\_/\_/\_/\_/\_/\_ from⟨X,e3,e4,e5,e6,e7,e8⟩);have j1:=z7p (X.over (Below.refl _ _).drew) (z0d _ _);clear X e3 e4 e5 e6 e7 e8
  go_upto_region 11 with fail
  apply z5b (fun a w'=>∃ d n,w'=n.setCell ⟨gn,65,none⟩ a/\n=d.setCells gn 2 (stC s3 m).toList/\Bl w10 d/\Rep (fun b=>w10.heap.size<=b) d a 2 16 (pwC st3))
  ·refine wp_region_noPanic ?_
   have e9:Hid (∀ d,Bl w10 d->∃ n,n=d.setCells gn 2 (stC s3 m).toList/\(z6s (J2 (some ⟨gn,2,none⟩)) (J4 (stC s3 m))).run prog d=.ok () n/\n.cell? ⟨gn,65,none⟩=some v8.set/\n.frozen? ⟨gn,65,none⟩=false/\gn<n.heap.size):=fun d f=>by
    have f4:=l.out.2.1.over f;have x:=f4.z0I s3 m;exact⟨_,rfl,z1x f4 (z0c _ _) (z0d s3 m) a0,x.cell 65,x.free 65,x.lt⟩
   go_region_with (go_at_call 13;refine (d9.out _ _).mono ?_;rintro e d⟨a,rfl,N,f5⟩;have f:=(Below.refl w10.heap.size w10).drew.trans f5;have m1:=z7p (l.out.1.over f) (z0d _ _);obtain⟨n,z,k0,f6,a2,yz⟩:=e9.out d f;have k1:=z7J N.one' f6 a2;clear f6 a2;have j2:=J6 z;clear z)
   all_goals exact NoPanic.normal ⟨a,rfl,rfl,d,n,rfl,j2.out,f,N⟩
  rintro a w'⟨d,n,rfl,z,f,N⟩;have x:=(l.out.2.1.over f).z0I s3 m;have b5:=(l.out.2.2.1.over f).others (c:=gn) (o:=2) (by omega) (stC s3 m).toList
  have f7:=zbt l.out.2.2.2.1 f;have b7:=z0b (b:=gn) (B:=w.heap.size) (by omega) (stC s3 m).toList 2 _ f7
  rw[<- z]at x b5 b7;have b9:=x.set 65 a;rw[q4l]at b9;have c4:=b5.other (c:=gn) (o:=65) (by omega) a
  have f8:=b7.setCell (p:=⟨gn,65,none⟩) (by show _<=gn;omega) a
  have Q:Alt gn d (n.setCell ⟨gn,65,none⟩ a):=by rw[z];exact (Alt.sets (stC s3 m).toList (Alt.refl gn d) 2).set 65 a
  have k2:=l.out.1.lt
  have f9:PIn (Nx P w gn) (n.setCell ⟨gn,65,none⟩ a) q0 { v8 with ws:=m,set:=a }:=by
   have no:=q3g (P:=P) (w:=w) (g:=gn) (by omega)
   have p1:=Q.pin no (l.out.2.2.2.2.1.over f);have hU:Rep (Nx P w gn) d m 8 64 (wsL s3.W):=(l.out.2.2.2.2.2.1.over f).mono fun b _ r=>.inr (by have g0:w8.heap.size<=b:=r;omega)
   have hS:Rep (Nx P w gn) d a 2 16 (pwC st3):=N.mono fun b _ r=>.inr (by have g0:w10.heap.size<=b:=r;omega)
   rw[L.out];exact⟨Q.rep no hU,Q.rep no hS,p1.lk,p1.q⟩
  have g1:Rep (Nx P w gn) (n.setCell ⟨gn,65,none⟩ a) x9 1 8 (inC (z0D now p2.s.W)):=Q.rep (q3g (by omega)) ((l.out.2.2.2.2.2.2.over f).mono fun b _ r=>.inr (by have g0:w8.heap.size<=b:=r;omega))
  have R:CAt 47 (n.setCell ⟨gn,65,none⟩ a) gn (prC q0 { v8 with ws:=m,set:=a }):=by rw[L.out];exact b9
  clear x b5 f7 b7 b9 Q z f N l;generalize ({ v8 with ws:=m,set:=a }:PrV)=v13 at *
  generalize n.setCell ⟨gn,65,none⟩ a=w13 at *;have k3:=R.lt;have k4:=c4.lt;have y:=J6 (show _/\_/\_/\_/\_ from⟨R,c4,f8,f9,g1⟩);clear R c4 f8 f9 g1 j1 d9 j0 L;simp only[Exit.then];apply_assumption
  go_upto_region 13 with fail
  go_loopw [60] (fun i wl=>∃ (k:Nat) (vk:PrV),k<=2/\i=.int .i64 (k:Int)/\Hid (CAt 47 wl gn (prC (if k=0 then q0 else if k=1 then q1 else q2) vk)/\PIn (Nx P w gn) wl (if k=0 then q0 else if k=1 then q1 else q2) vk/\Alt gn w13 wl)) (fun i _=>(2 - intOf i).toNat)
  case atStart=>exact⟨0,v13,by omega,rfl,y.out.1,y.out.2.2.2.1,Alt.refl _ _⟩
  case round =>
   obtain⟨k,vk,hk,rfl,Y⟩:=hrel
   by_cases j3:k<2
   ·have m2:(k:Int)<2:=by omega
    have m3:(0:Int)<=(k:Int):=by omega
    have e1:(if k=0 then q0 else if k=1 then q1 else q2)=if k=0 then q0 else q1:=by
     rcases (show k=0∨k=1 by omega) with rfl | rfl <;> rfl
    have e2:(if k=0 then q1 else q2)=if k+1=0 then q0 else if k+1=1 then q1 else q2:=by
     rcases (show k=0∨k=1 by omega) with rfl | rfl <;> rfl
    have m4:=Y.out.2.2.size;have ht:=F.out k j3 gn vk wr (Nx P w gn) (by rw[<- e1];exact Y.out.1) (by rw[<- e1];exact Y.out.2.1) (q3g (by omega))
    rw[e2]at ht;have g2:=J6 ht;clear ht e1 e2
    go_upto_region 16 with (go_at_call 32;refine g2.out.mono ?_;rintro e m5⟨g3,rfl,g5,g6,g8⟩)
    have HF:=J6 (show _/\_/\_ from⟨g5,g6.mono (P':=Nx P w gn) (fun b _ r=>q9l (by omega) (by omega) r),Y.out.2.2.trans g8⟩)
    clear g5 g6 g8 g2 Y;go_wp2
    first | exact⟨⟨k+1,g3,by omega,by go_num,HF⟩,by simp[intOf];omega⟩ | ((repeat apply Exists.intro);exact⟨⟨k+1,g3,by omega,by go_num,HF⟩,rfl⟩)
   ·obtain rfl:k=2:=by omega
    have g9:CAt 47 wr gn (prC q2 vk):=Y.out.1;have c5:PIn (Nx P w gn) wr q2 vk:=Y.out.2.1;have Z:=Y.out.2.2;have c6:=Z.cat (b:=w.heap.size+1) (by omega) y.out.2.1
    have h4:=y.out.2.2.1.trans (Z.below (by omega) y.out.2.2.1.size)
    have h5:=Z.rep (q3g (P:=P) (w:=w) (g:=gn) (by omega)) y.out.2.2.2.2
    have m6:=z0t g9 (z0c _ _);have m7:=z0z c6 z0h (z0c q2 vk) (z2y c5);have HZ:=J6 (show _/\_/\_/\_ from⟨c6,h4,c5.mono (P':=New P w 2) (fun _ _ h=>q6F h),h5.mono (P':=New P w 2) (fun _ _ h=>q6F h)⟩);clear g9 c5 Z c6 h4 h5 Y y F;go_wp2;exact z4l results9 HZ.out.1 z0h HZ.out.2.1 q2 vk x9 _ 0 D HD.out HZ.out.2.2.1 HZ.out.2.2.2 _ rfl rfl rfl rfl
 ·replace HD:=J6 (HD.out.trans (if_neg T))
  have j4:G=false∨(G=true/\isT now=false)∨(G=true/\isT now=true/\now<p.t):=by
   cases G
   ·exact .inl rfl
   ·cases h:isT now
    ·exact .inr (.inl ⟨rfl,rfl⟩)
    ·exact .inr (.inr ⟨rfl,rfl,by have:=T;simp only[h,true_and]at this;omega⟩)
  clear T E F H a5 a4
  rcases j4 with rfl | ⟨rfl,h1⟩ | ⟨rfl,h1,h2⟩
  all_goals
   go_upto_region 2 with (first
    | (go_at_call 10;refine (S.out _ A.out.2.2).mono ?_;rintro e w1⟨rfl,j⟩;clear l0;have a1:w1.cell? ⟨w.heap.size,1,none⟩=some (.int .i64 p.t):=(A.out.1.over j).cell 1)
    | (go_at_call 27;refine (z4b _ _).mono ?_;rintro e w'⟨rfl,rfl⟩))
   have R1:=A.out.2.1.over j;have l1:=z0t (A.out.1.over j) (z0c _ _);have s1:=z0z R1 z0h (z0c p v) C;have B1:=zbt A.out.2.2 j;have HZ:=J6 (show _/\_ from⟨R1,B1⟩);clear R1 B1 j C A S a1;go_wp2;exact z4l results9 HZ.out.1 z0h HZ.out.2 p v (J1 none 0 0) [] 2 D HD.out (HN.out _ HZ.out.2) (Rep.nil _ _ _ _) _ rfl rfl rfl rfl
end Pv
end Go.Proofs.YtjghbciepinofaaGreat
