/- Parts of the proof. -/
import Derived.Test.YtddlhnoedldidaaGreatML
import Derived.Test.YtddlhnoedldidaaGreatMK12
import Derived.Test.YtddlhnoedldidaaGreatMK28
set_option maxRecDepth 100000
set_option maxHeartbeats 16000000
namespace Go.Proofs.YtddlhnoedldidaaGreat
open Go.Proofs.Tryz
open Value renaming int->J,slice->J1,pointer->J2,bool->J3,agg->J4
open IntKind renaming i64->I
open Obj renaming cells->J5
namespace Wd
open Go.RowKit Pv Kc
structure j7Y(P:Nat->Prop)(w0:World)(rp:Pr)(n:Nat)(gn:Nat)(ts:Array Value)(up:Value)(w:World):Prop where
 ex:∃ u,ts=prC rp u/\PIn (fun b=>New P w0 0 b/\b≠gn) w rp u
 sl:∃ A C,up=J1 A n C
 cat:CAt 58 w gn ts
 bel:Bl w0 w
 le:w0.heap.size<=gn
theorem j1p{P Q:Nat->Prop}{w0 d a:World}{rp:Pr}{u:PrV}{up:Value}{l:List Int}{k:Nat}(h:PIn (New (fun b=>P b/\b<w0.heap.size) d k) a rp u)(c:Rep Q a up 1 8 (inC l))(g:d.heap.size=w0.heap.size)(hb:Bl w0 a):j7Y P w0 rp l.length a.heap.size (prC rp u) up ((a.alloc (J5 zeroCells58 58)).setCells a.heap.size 0 (prC rp u).toList):=by
 have f:Bl a ((a.alloc (J5 zeroCells58 58)).setCells a.heap.size 0 (prC rp u).toList):=z0a (Nat.le_refl _) _ _ _ (znw a _);obtain⟨A,C,e,-⟩:=row_of c (z0h l) (by decide)
 refine⟨⟨u,rfl,?_⟩,⟨A,C,e⟩,(CAt.new 58 a zeroCells58).z0t (by rw[z0d];rfl),zbt hb f,hb.size⟩
 refine ((h.mono (P':=fun b=>New P w0 0 b/\b≠a.heap.size) fun b i hp=>⟨?_,by omega⟩).over f)
 rcases hp with⟨hp,_⟩ | hp
 ·exact .inl hp
 ·exact .inr (by omega)
theorem q9R{P Q:Nat->Prop}{w0 d a:World}{rp:Pr}{u:PrV}{up:Value}{l:List Int}{k:Nat}(h:PIn (New (fun b=>P b/\b<w0.heap.size) d k) a rp u)(c:Rep Q a up 1 8 (inC l))(g:d.heap.size=w0.heap.size+1)(hb:Bl w0 a)(hc:CAt 58 a w0.heap.size zeroCells58):j7Y P w0 rp l.length w0.heap.size (prC rp u) up (a.setCells w0.heap.size 0 (prC rp u).toList):=by
 obtain⟨A,C,e,-⟩:=row_of c (z0h l) (by decide)
 refine⟨⟨u,rfl,?_⟩,⟨A,C,e⟩,hc.z0t (by rw[z0d];rfl),z0a (Nat.le_refl _) _ _ _ hb,Nat.le_refl _⟩
 have f:PIn (fun b=>New P w0 0 b/\b≠w0.heap.size) a rp u:=h.mono fun b _ hp=>by
  rcases hp with⟨hp,_⟩ | hp
  ·exact⟨.inl hp,by omega⟩
  ·exact⟨.inr (by omega),by omega⟩
 exact f.sets (fun e=>e.2 rfl) _ _
theorem q7C{w:World}{g:Nat}{x:Wo}{v:WoV}(h:CAt 97 w g (wdC x v)){i:Nat}(a:i<2):w.cell? ⟨g,99+i * 22+14+2,none⟩=some (J I (x.c i).out.g):=by
 rw[h.cell]
 match i,a with
 | 0,_=>rfl
 | 1,_=>rfl
theorem q7V{w:World}{g:Nat}{p:Pr}{u:PrV}(h:CAt 58 w g (prC p u)){i:Nat}(a:i<2):w.cell? ⟨g,66+i * 14+6,none⟩=some (u.l i).said:=(h.lk a).facts.2.2.2.2.2.2.1
structure PLp(P:Nat->Prop)(w:World)(g gn:Nat)(x:Wo)(rp:Pr)(u:PrV)(k:Nat)(wl:World):Prop where
 ex:∃ hp',(∀ j,j<k->hp' j=z5c rp x.c j)/\z1b P w g { x with p:=rp,hp:=hp' } wl
 cat:CAt 58 wl gn (prC rp u)
attribute [local go_sem ↓] z0H z0w z6b
theorem q0T(g:Nat)(x:Wo)(v:WoV)(P:Nat->Prop)(w:World)(hC:CAt 97 w g (wdC x v))(hI:WIn P w x v)(hg:¬ P g)(a2:x.p.q.length * 88<=140737488351232) :
  Calls prog 35 #[J2 (some ⟨g,0,none⟩)] w (z9z P w g (z7W x)):=by
 have hD:z7W x=if (endP x.p x.ck).2.2=0 then ({ x with p:=(endP x.p x.ck).1,hp:=z5c (endP x.p x.ck).1 x.c },((endP x.p x.ck).2.1.length:Int),0) else (x,0,(endP x.p x.ck).2.2):=by unfold z7W;rfl
 have a3:=hC.lt;have N:=J6 (fun (f:World) (hb:Bl w f)=>j1E x.p v.p (fun b=>P b/\b<w.heap.size) f x.ck ((hI.p.mono (P':=fun b=>P b/\b<w.heap.size) fun b hl hp=>⟨hp,hl⟩).over hb) (by omega))
 have Q:=J6 (fun (f:World) (hb:Bl w f)=>(show (z7u (J2 (some ⟨g,2,none⟩))).run prog f=.ok (J4 (prC x.p v.p)) f/\f.cell? ⟨g,0,none⟩=some (.int .i64 x.ck) from⟨q9F ((z7P x v x.p v.p).part (hC.over hb)) (z0b _ _),(hC.over hb).cell 0⟩));generalize z7W x=D at *;generalize endP x.p x.ck=r at *;obtain⟨rp,pl,W⟩:=r;dsimp only at hD;have HD:=J6 hD;have HC:=J6 hC;have HI:=J6 hI;clear hD hC hI a2;generalize Value.agg (prC x.p v.p)=V0 at N Q;have B:Hid (Bl w (w.alloc (J5 zeroCells58 58)).drew):=(znw w _).drew;have X:Hid (CAt 58 (w.alloc (J5 zeroCells58 58)).drew w.heap.size zeroCells58):=CAt.new 58 w zeroCells58
 go_enter func35,ntmps35
 go_upto_region 1 with fail
 apply j5F (fun (gn:Nat) (ts:Array Value) (up:Value) w'=>j7Y P w rp pl.length gn ts up w')
 ·skip;refine wp_region_noPanic ?_;refine wp_region_held_drew (S:=fun f=>Bl w f) (by kernel_rfl) (Below.refl _ _).drew (fun d=>?_)
  refine O.G 0 (J2 (some ⟨g,0,none⟩)) 9 rfl rfl d ?_;refine O.G 1 (J2 (some ⟨g,0,none⟩)) 10 rfl rfl d ?_;refine O.G 2 (J2 (some ⟨g,2,none⟩)) 11 rfl rfl d ?_;refine O.Z 3 V0 12 rfl rfl d (fun f a=>by obtain⟨l1,l2⟩:=Q.out f a;go_simp) ?_
  refine O.G 4 (J2 (some ⟨g,0,none⟩)) 13 rfl rfl d ?_;refine O.G 5 (J2 (some ⟨g,0,none⟩)) 14 rfl rfl d ?_;refine O.G 6 (J2 (some ⟨g,0,none⟩)) 15 rfl rfl d ?_;refine O.Z 7 (.int .i64 x.ck) 16 rfl rfl d (fun f a=>by obtain⟨l1,l2⟩:=Q.out f a;go_simp) ?_
  refine O.z3j (i:=8) (j:=13) (by kernel_rfl) rfl rfl rfl rfl (fun K C=>?_) (fun K C=>?_)
  ·go_simp
   go_at_call 58
   refine (N.out _ (by with_reducible exact (Below.refl w.heap.size w).drew)).mono ?_
   rintro e w3⟨u3,up,rfl,Y,Up,R⟩;dsimp only at Y Up;have hb:=(Below.refl w.heap.size w).drew.trans (R.mono (Below.refl w.heap.size w).drew.size);obtain⟨ts,m⟩:∃ y:Array Value,y=prC rp u3:=⟨_,rfl⟩;dsimp only;rw[<- m];have T:=J6 m;clear m;refine C _ _ hb ?_;clear C K;refine O.Z 9 (.tuple #[J4 ts,up,(.int .i64 W)]) 8 rfl rfl hb (fun f a=>?_) ?_
   ·go_simp
   refine O.Z 10 (J4 ts) 18 rfl rfl hb (fun f a=>?_) ?_
   ·go_simp
   refine O.Z 11 up 19 rfl rfl hb (fun f a=>?_) ?_
   ·go_simp
   refine O.Z 12 (.int .i64 W) 20 rfl rfl hb (fun f a=>?_) ?_
   ·go_simp
   refine O.z0R (i:=13) (by kernel_rfl) rfl rfl (fun K C=>?_)
   go_simp;refine C _ _ (hb.alloc hb.size _) ?_;clear C K;have q2:ts.all (fun x=>x.oneCell')=true:=by rw[T.out];exact z0Y Y
   have l:=j1p Y Up (by rfl) hb
   rw[<- T.out]at l;change wpAnyH _ _ _ _ _ _ _ _ (w3.alloc (J5 zeroCells58 58));refine O.z0n (i:=14) (by kernel_rfl) rfl rfl 58 _ _ rfl rfl w3.heap.size 0 ts rfl rfl ((CAt.new 58 w3 zeroCells58).there 0 _ (by rw[T.out];exact Nat.le_of_eq rfl)) (by rw[T.out,z2E];rfl) q2 l.bel ?_
   refine O.Z 15 up 5 rfl rfl l.bel (fun f a=>?_) ?_
   ·go_simp
   refine O.Z 16 (.int .i64 W) 6 rfl rfl l.bel (fun f a=>?_) ?_
   ·go_simp
   refine wpAnyH_done (by kernel_rfl) ?_ _
   obtain⟨gn,a0⟩:∃ y,y=w3.heap.size:=⟨_,rfl⟩;rw[<- a0]at l ⊢;simp only[O.pp,O.pb,O.pc];exact NoPanic.normal ⟨gn,ts,up,rfl,rfl,l⟩
  ·go_simp;refine C _ _ (d.alloc d.size _) ?_;clear C K;refine O.z0R (i:=8) (by kernel_rfl) rfl rfl (fun K C=>?_)
   go_simp
   go_at_call 58
   refine (N.out _ (by with_reducible exact B.out)).mono ?_
   rintro e w3⟨u3,up,rfl,Y,Up,R⟩;dsimp only at Y Up;have hb:=zbt B.out R;obtain⟨ts,m⟩:∃ y:Array Value,y=prC rp u3:=⟨_,rfl⟩;dsimp only;rw[<- m];have T:=J6 m;clear m;refine C _ _ hb ?_;clear C K;refine O.Z 9 (.tuple #[J4 ts,up,(.int .i64 W)]) 8 rfl rfl hb (fun f a=>?_) ?_
   ·go_simp
   refine O.Z 10 (J4 ts) 18 rfl rfl hb (fun f a=>?_) ?_
   ·go_simp
   refine O.Z 11 up 19 rfl rfl hb (fun f a=>?_) ?_
   ·go_simp
   refine O.Z 12 (.int .i64 W) 20 rfl rfl hb (fun f a=>?_) ?_
   ·go_simp
   have q2:ts.all (fun x=>x.oneCell')=true:=by rw[T.out];exact z0Y Y
   have R3:=X.out.over R;have l:=q9R Y Up (by simp) hb R3
   rw[<- T.out]at l;refine O.z0n (i:=14) (by kernel_rfl) rfl rfl 58 _ _ rfl rfl w.heap.size 0 ts rfl rfl (R3.there 0 _ (by rw[T.out];exact Nat.le_of_eq rfl)) (by rw[T.out,z2E];rfl) q2 l.bel ?_
   refine O.Z 15 up 5 rfl rfl l.bel (fun f a=>?_) ?_
   ·go_simp
   refine O.Z 16 (.int .i64 W) 6 rfl rfl l.bel (fun f a=>?_) ?_
   ·go_simp
   refine wpAnyH_done (by kernel_rfl) ?_ _
   obtain⟨gn,a0⟩:∃ y,y=w.heap.size:=⟨_,rfl⟩;rw[<- a0]at l ⊢;simp only[O.pp,O.pb,O.pc];exact NoPanic.normal ⟨gn,ts,up,rfl,rfl,l⟩
 rintro gn ts up w5 S5;obtain⟨Au,Du,rfl⟩:=S5.sl;have z:=J6 S5;have b7:=S5.le;have b5:=S5.cat.lt;clear S5 Q N B X;have b8:g≠gn:=by omega
 simp only[Exit.then];apply_assumption
 by_cases hE:W=0
 case neg =>
  replace HD:=J6 (HD.out.trans (if_neg hE));have b9:(W != 0)=true:=by simpa using hE
  go_wp2;go_ret2;rw[HD.out];exact⟨rfl,.same (HC.out.over z.out.bel) HI.out hg (Alt.of z.out.bel)⟩
 subst hE;replace HD:=J6 (HD.out.trans (if_pos rfl));obtain⟨u,E,U⟩:=z.out.ex;have m:ts.size=97:=by rw[E];rfl
 have l5:=z0j z.out.cat m;have s5:=j7h ((z7P x v rp u).there (HC.out.over z.out.bel)) (z0b _ _) (z0Y U);have Z6:=q0Z HI.out hg (Below.refl _ w) HC.out a3 z.out.bel (U.mono (P':=New P w 0) fun b _ hb=>hb.1);have H:=z.out.cat.others (c:=g) (o:=2) (by omega) (prC rp u).toList
 have F:=fun i hi=>z3b (U.lk i hi).said (z0V _) (by decide)
 have a8:=J6 F;have a1:Hid (PLp P w g gn x rp u 0 (w5.setCells g 2 (prC rp u).toList)):=⟨⟨x.hp,fun j hj=>by omega,Z6⟩,by rw[E]at H;exact H⟩
 rw[<- E]at s5 a1;have c4:=J6 E;clear E;clear Z6 H F U m;generalize w5.setCells g 2 ts.toList=w6 at *
 go_upto_region 6 with fail
 clear l5 s5
 go_loopw [28] (fun i wl=>∃ (k:Nat),k<=2/\i=.int .i64 (k:Int)/\Hid (PLp P w g gn x rp u k wl)) (fun i _=>2 - (intOf i).toNat)
 case atStart=>exact⟨0,by omega,rfl,a1⟩
 case round =>
  obtain⟨k,hk,rfl,HR⟩:=hrel;clear a1
  by_cases s:k<2
  ·have c5:(k:Int)<2:=by omega
   have hk0:(0:Int)<=(k:Int):=by omega
   obtain⟨hp',A,v6,M,I6,A6⟩:=HR.out.ex;obtain⟨As,Ds,es,-,-⟩:=a8.out k s;have H:=HR.out.cat;have b6:=M.lt;have a9:=H.lt;have n:=(Below.refl wr.heap.size wr).drew
   have a4:wr.drew.cell? ⟨gn,0,none⟩=some (.int .i64 rp.h)/\wr.drew.cell? ⟨gn,1,none⟩=some (.int .i64 rp.t)/\wr.drew.cell? ⟨gn,66+k * 14+6,none⟩=some (J1 As (rp.L k).out.S.length Ds)/\wr.drew.cell? ⟨g,99+k * 22+14+2,none⟩=some (.int .i64 (x.c k).out.g):=
    ⟨(H.over n).cell 0,(H.over n).cell 1,by rw[<- es];exact q7V (H.over n) s,q7C (M.over n) s⟩
   have V:=j6N { x with p:=rp,hp:=hp' } v6 s (z5c rp x.c k)
   have a5:=J6 V;have D7:=(H.over n).others (c:=g) (o:=143+k * 8) (by omega) (hdL (z5c rp x.c k))
   have C7:=V.sets (M.over n)
   have a6:Hid ((wr.drew.setCells g (143+k * 8) (hdL (z5c rp x.c k))).cell? ⟨gn,0,none⟩=some (.int .i64 rp.h)/\(wr.drew.setCells g (143+k * 8) (hdL (z5c rp x.c k))).cell? ⟨gn,1,none⟩=some (.int .i64 rp.t)/\(wr.drew.setCells g (143+k * 8) (hdL (z5c rp x.c k))).cell? ⟨gn,66+k * 14+6,none⟩=some (J1 As (rp.L k).out.S.length Ds)/\(wr.drew.setCells g (143+k * 8) (hdL (z5c rp x.c k))).cell? ⟨g,99+k * 22+14+2,none⟩=some (.int .i64 (x.c k).out.g)):=
    ⟨D7.cell 0,D7.cell 1,by rw[<- es];exact q7V D7 s,q7C C7 s⟩
   have a7:¬ New P w 0 g:=Pv.z0I hg a3;have Z7:=j3D (I6.over n) a7 (M.over n) V rfl rfl
   have b4:Hid (PLp P w g gn x rp u (k+1) (wr.drew.setCells g (143+k * 8) (hdL (z5c rp x.c k)))):=by
    refine⟨⟨q5U hp' k (z5c rp x.c k),fun j hj=>?_,z1b.trans A6 (z1b.trans (Alt.of (g:=g) n) (Z7.q3L a7))⟩,D7⟩;unfold q5U
    by_cases e:j=k
    ·rw[if_pos e,e]
    ·rw[if_neg e];exact A j (by omega)
   have HX:=J6 (show _/\_ from⟨M,I6⟩);clear M I6 A6 H D7 C7 Z7 V n es A
   go_upto_region 8 with fail
   refine wp_region_held_drew (S:=fun f=>f.cell? ⟨gn,0,none⟩=some (.int .i64 rp.h)/\f.cell? ⟨gn,1,none⟩=some (.int .i64 rp.t)/\f.cell? ⟨gn,66+k * 14+6,none⟩=some (J1 As (rp.L k).out.S.length Ds)/\f.cell? ⟨g,99+k * 22+14+2,none⟩=some (.int .i64 (x.c k).out.g)) (by kernel_rfl) a4 (fun d=>?_)
   refine O.G 0 (J2 (some ⟨g,0,none⟩)) 31 rfl rfl d ?_;refine O.G 1 (.int .i64 (k:Int)) 32 rfl rfl d ?_;refine O.G 2 (J2 (some ⟨gn,0,none⟩)) 33 rfl rfl d ?_;refine O.Z 3 (.int .i64 rp.h) 34 rfl rfl d (fun f a=>by obtain⟨l1,l2,l3,l4⟩:=a;go_simp) ?_
   refine O.G 4 (J2 (some ⟨gn,1,none⟩)) 35 rfl rfl d ?_;refine O.Z 5 (.int .i64 rp.t) 36 rfl rfl d (fun f a=>by obtain⟨l1,l2,l3,l4⟩:=a;go_simp) ?_
   refine O.G 6 (.int .i64 (k:Int)) 37 rfl rfl d ?_;refine O.G 7 (J2 (some ⟨gn,66,none⟩)) 38 rfl rfl d ?_;refine O.G 8 (J2 (some ⟨gn,66+k * 14,none⟩)) 39 rfl rfl d ?_;refine O.G 9 (J2 (some ⟨gn,66+k * 14+6,none⟩)) 40 rfl rfl d ?_;refine O.G 10 (J2 (some ⟨gn,66+k * 14+6,none⟩)) 41 rfl rfl d ?_;refine O.Z 11 (J1 As (rp.L k).out.S.length Ds) 42 rfl rfl d (fun f a=>by obtain⟨l1,l2,l3,l4⟩:=a;go_simp) ?_
   refine O.G 12 (.int .i64 ((rp.L k).out.S.length:Int)) 43 rfl rfl d ?_;refine O.G 13 (J2 (some ⟨g,0,none⟩)) 44 rfl rfl d ?_;refine O.G 14 (.int .i64 (k:Int)) 45 rfl rfl d ?_;refine O.G 15 (J2 (some ⟨g,0,none⟩)) 46 rfl rfl d ?_;refine O.G 16 (J2 (some ⟨g,99,none⟩)) 47 rfl rfl d ?_;refine O.G 17 (J2 (some ⟨g,99+k * 22,none⟩)) 48 rfl rfl d ?_;refine O.G 18 (J2 (some ⟨g,99+k * 22+14,none⟩)) 49 rfl rfl d ?_;refine O.G 19 (J2 (some ⟨g,99+k * 22+14+2,none⟩)) 50 rfl rfl d ?_;refine O.Z 20 (.int .i64 (x.c k).out.g) 51 rfl rfl d (fun f a=>by obtain⟨l1,l2,l3,l4⟩:=a;go_simp) ?_
   refine O.G 21 (J4 #[.int .i64 rp.h,.int .i64 rp.t,.int .i64 ((rp.L k).out.S.length:Int),.int .i64 (x.c k).out.g]) 52 rfl rfl d ?_;refine O.G 22 (J2 (some ⟨g,0,none⟩)) 53 rfl rfl d ?_;refine O.G 23 (J2 (some ⟨g,143,none⟩)) 54 rfl rfl d ?_;refine O.G 24 (J2 (some ⟨g,143+k * 8,none⟩)) 55 rfl rfl d ?_;refine O.G 25 (J2 (some ⟨g,143+k * 8,none⟩)) 56 rfl rfl d ?_;have q1:(Option.map (fun x=>x.size) (prog.info? 50))=some (#[.int .i64 rp.h,.int .i64 rp.t,.int .i64 ((rp.L k).out.S.length:Int),.int .i64 (x.c k).out.g]:Array Value).size:=by rw[q2L];rfl
   have q2:(#[.int .i64 rp.h,.int .i64 rp.t,.int .i64 ((rp.L k).out.S.length:Int),.int .i64 (x.c k).out.g]:Array Value).all (fun x=>x.oneCell')=true:=by simp[Value.oneCell']
   have q3:wr.drew.there g (143+k * 8) (#[.int .i64 rp.h,.int .i64 rp.t,.int .i64 ((rp.L k).out.S.length:Int),.int .i64 (x.c k).out.g]:Array Value).size:=a5.out.there (HX.out.1.over (Below.refl wr.heap.size wr).drew);simp only[O.pp,O.pb,O.pc];refine O.z0n (i:=26) (by kernel_rfl) rfl rfl 50 _ _ rfl rfl g (143+k * 8) #[.int .i64 rp.h,.int .i64 rp.t,.int .i64 ((rp.L k).out.S.length:Int),.int .i64 (x.c k).out.g] rfl rfl q3 q1 q2 a6.out ?_
   refine wpAnyH_done (by kernel_rfl) ?_ _
   change Exit.inBlock _ _ _ _ (wr.drew.setCells g (143+k * 8) (hdL (z5c rp x.c k)));clear q1 q2 q3 d a4 a6 HX a5;generalize wr.drew.setCells g (143+k * 8) (hdL (z5c rp x.c k))=w7 at *;go_simp;go_wp2;exact⟨⟨k+1,by omega,by go_num,b4⟩,by simp[intOf];omega⟩
  ·obtain rfl:k=2:=by omega
   obtain⟨hp',A,v6,M,I6,A6⟩:=HR.out.ex
   have e:wdC { x with p:=rp,hp:=hp' } v6=wdC { x with p:=rp,hp:=z5c rp x.c } v6:=by
    unfold wdC;dsimp only;rw[A 0 (by omega),A 1 (by omega)]
   rw[e]at M;have HZ:Hid (z1b P w g { x with p:=rp,hp:=z5c rp x.c } wr):=⟨v6,M,⟨I6.p,I6.c⟩,A6⟩
   clear M I6 A6 e HR A;go_wp2;go_ret2;rw[HD.out];exact⟨rfl,HZ.out⟩
end Wd
end Go.Proofs.YtddlhnoedldidaaGreat
