/- Parts of the proof. -/
import Derived.Test.YtddlhnoedldidaaGreatGL
import Derived.Test.YtddlhnoedldidaaGreatGK7
import Derived.Test.YtddlhnoedldidaaGreatGK21
set_option maxRecDepth 100000
set_option maxHeartbeats 16000000
namespace Go.Proofs.YtddlhnoedldidaaGreat
open Go.Proofs.Tryz
open Value renaming int->J,slice->J1,pointer->J2,bool->J3,agg->J4
open IntKind renaming i64->I
open Obj renaming cells->J5
namespace Wd
open Go.RowKit Pv Kc
structure y2e(P:Nat->Prop)(w0:World)(rp:Pr)(n:Nat)(gn:Nat)(ts:Array Value)(up:Value)(w:World):Prop where
 ex:∃u,ts=prC rp u/\PIn (λb=>New P w0 0 b/\b≠gn) w rp u
 sl:∃A C,up=J1 A n C
 cat:CAt 58 w gn ts
 bel:Bl w0 w
 le:w0.heap.size<=gn
theorem j1W{P Q:Nat->Prop}{w0 d a:World}{rp:Pr}{u:PrV}{up:Value}{l:List Int}{k:Nat}(h:PIn (New (λb=>P b/\b<w0.heap.size) d k) a rp u)(c:Rep Q a up 1 8 (inC l))(g:d.heap.size=w0.heap.size)(hb:Bl w0 a):y2e P w0 rp l.length a.heap.size (prC rp u) up ((a.alloc (J5 zeroCells58 58)).setCells a.heap.size 0 (prC rp u).toList):=by
 have f:Bl a ((a.alloc (J5 zeroCells58 58)).setCells a.heap.size 0 (prC rp u).toList):=z0b (Nat.le_refl _) _ _ _ (znw a _);obtain⟨A,C,e,-⟩:=row_of c (z0s l) (by decide)
 refine⟨⟨u,rfl,?_⟩,⟨A,C,e⟩,(CAt.new 58 a zeroCells58).z0L (by rw[z0e];rfl),zbt hb f,hb.size⟩
 refine((h.mono (P':=λb=>New P w0 0 b/\b≠a.heap.size) λb i hp=>⟨?_,by omega⟩).over f)
 rcases hp with⟨hp,_⟩|hp
 ·exact .inl hp
 ·exact .inr (by omega)
theorem j3P{P Q:Nat->Prop}{w0 d a:World}{rp:Pr}{u:PrV}{up:Value}{l:List Int}{k:Nat}(h:PIn (New (λb=>P b/\b<w0.heap.size) d k) a rp u)(c:Rep Q a up 1 8 (inC l))(f:d.heap.size=w0.heap.size+1)(hb:Bl w0 a)(hc:CAt 58 a w0.heap.size zeroCells58):y2e P w0 rp l.length w0.heap.size (prC rp u) up (a.setCells w0.heap.size 0 (prC rp u).toList):=by
 obtain⟨A,C,e,-⟩:=row_of c (z0s l) (by decide)
 refine⟨⟨u,rfl,?_⟩,⟨A,C,e⟩,hc.z0L (by rw[z0e];rfl),z0b (Nat.le_refl _) _ _ _ hb,Nat.le_refl _⟩
 have h':PIn (λb=>New P w0 0 b/\b≠w0.heap.size) a rp u:=h.mono λb _ hp=>by
  rcases hp with⟨hp,_⟩|hp
  ·exact⟨.inl hp,by omega⟩
  ·exact⟨.inr (by omega),by omega⟩
 exact h'.sets (λe=>e.2 rfl) _ _
theorem j0P{w:World}{g:Nat}{x:Wo}{v:WoV}(h:CAt 97 w g (wdC x v)){i:Nat}(a:i<2):w.cell? ⟨g,99+i*22+14+2,none⟩=some (J I (x.c i).out.g):=by
 rw[h.cell]
 match i,a with
 | 0,_=>rfl
 | 1,_=>rfl
theorem j0z{w:World}{g:Nat}{p:Pr}{u:PrV}(h:CAt 58 w g (prC p u)){i:Nat}(a:i<2):w.cell? ⟨g,66+i*14+6,none⟩=some (u.l i).said:=(h.lk a).facts.2.2.2.2.2.2.1
structure PLp(P:Nat->Prop)(w:World)(g gn:Nat)(x:Wo)(rp:Pr)(u:PrV)(k:Nat)(wl:World):Prop where
 ex:∃hp',(∀j,j<k->hp' j=z5u rp x.c j)/\z1h P w g { x with p:=rp,hp:=hp' } wl
 cat:CAt 58 wl gn (prC rp u)
attribute [local go_sem ↓] z0T z0F z7a
theorem q2l(g:Nat)(x:Wo)(v:WoV)(P:Nat->Prop)(w:World)(hC:CAt 97 w g (wdC x v))(hI:WIn P w x v)(hg:¬ P g)(a2:x.p.q.length*88<=140737488351232) :
  Calls prog 35 #[J2 (some ⟨g,0,none⟩)] w (q0Q P w g (z3F x)):=by
 have hD:z3F x=if(endP x.p x.ck).2.2=0 then({ x with p:=(endP x.p x.ck).1,hp:=z5u (endP x.p x.ck).1 x.c},((endP x.p x.ck).2.1.length:Int),0)else(x,0,(endP x.p x.ck).2.2):=by unfold z3F;rfl
 have a3:=hC.lt;have N:=J6 (λ(f:World) (hb:Bl w f)=>j3E x.p v.p (λb=>P b/\b<w.heap.size) f x.ck ((hI.p.mono (P':=λb=>P b/\b<w.heap.size) λb hl hp=>⟨hp,hl⟩).over hb) (by omega))
 have Q:=J6 (λ(f:World) (hb:Bl w f)=>(show(q0T (J2 (some ⟨g,2,none⟩))).run prog f=.ok (J4 (prC x.p v.p)) f/\f.cell? ⟨g,0,none⟩=some (.int .i64 x.ck)from⟨j2x ((z8T x v x.p v.p).part (hC.over hb)) (z0a _ _),(hC.over hb).cell 0⟩));generalize z3F x=D at *;generalize endP x.p x.ck=r at *;obtain⟨rp,pl,W⟩:=r;dsimp only at hD;have HD:=J6 hD;have HC:=J6 hC;have HI:=J6 hI;clear hD hC hI a2;generalize Value.agg (prC x.p v.p)=V0 at N Q;have B:Hid (Bl w (w.alloc (J5 zeroCells58 58)).drew):=(znw w _).drew;have X:Hid (CAt 58 (w.alloc (J5 zeroCells58 58)).drew w.heap.size zeroCells58):=CAt.new 58 w zeroCells58
 go_enter func35,ntmps35
 go_upto_region 1 with fail
 apply y0q (λ(gn:Nat) (ts:Array Value) (up:Value) w'=>y2e P w rp pl.length gn ts up w')
 ·skip;refine wp_region_noPanic ?_;refine wp_region_held_drew (S:=λf=>Bl w f) (by kernel_rfl) (Below.refl _ _).drew (λd=>?_)
  refine O.G 0 (J2 (some ⟨g,0,none⟩)) 9 rfl rfl d ?_;refine O.G 1 (J2 (some ⟨g,0,none⟩)) 10 rfl rfl d ?_;refine O.G 2 (J2 (some ⟨g,2,none⟩)) 11 rfl rfl d ?_;refine O.Z 3 V0 12 rfl rfl d (λf a=>by obtain⟨l1,l2⟩:=Q.out f a;go_simp) ?_
  refine O.G 4 (J2 (some ⟨g,0,none⟩)) 13 rfl rfl d ?_;refine O.G 5 (J2 (some ⟨g,0,none⟩)) 14 rfl rfl d ?_;refine O.G 6 (J2 (some ⟨g,0,none⟩)) 15 rfl rfl d ?_;refine O.Z 7 (.int .i64 x.ck) 16 rfl rfl d (λf a=>by obtain⟨l1,l2⟩:=Q.out f a;go_simp) ?_
  refine O.z4n (i:=8) (j:=13) (by kernel_rfl) rfl rfl rfl rfl (λK C=>?_) (λK C=>?_)
  ·go_simp
   go_at_call 58
   refine(N.out _ (by with_reducible exact(Below.refl w.heap.size w).drew)).mono ?_
   rintro e w3⟨u3,up,rfl,Y,Up,R⟩;dsimp only at Y Up;have hb:=(Below.refl w.heap.size w).drew.trans (R.mono (Below.refl w.heap.size w).drew.size);obtain⟨ts,m⟩:∃y:Array Value,y=prC rp u3:=⟨_,rfl⟩;dsimp only;rw[<-m];have T:=J6 m;clear m;refine C _ _ hb ?_;clear C K;refine O.Z 9 (.tuple #[J4 ts,up,(.int .i64 W)]) 8 rfl rfl hb (λf a=>?_) ?_
   ·go_simp
   refine O.Z 10 (J4 ts) 18 rfl rfl hb (λf a=>?_) ?_
   ·go_simp
   refine O.Z 11 up 19 rfl rfl hb (λf a=>?_) ?_
   ·go_simp
   refine O.Z 12 (.int .i64 W) 20 rfl rfl hb (λf a=>?_) ?_
   ·go_simp
   refine O.z1k (i:=13) (by kernel_rfl) rfl rfl (λK C=>?_)
   go_simp;refine C _ _ (hb.alloc hb.size _) ?_;clear C K;have q2:ts.all (λx=>x.oneCell')=true:=by rw[T.out];exact z1m Y
   have l:=j1W Y Up (by rfl) hb
   rw[<-T.out]at l;change wpAnyH _ _ _ _ _ _ _ _ (w3.alloc (J5 zeroCells58 58));refine O.z0D (i:=14) (by kernel_rfl) rfl rfl 58 _ _ rfl rfl w3.heap.size 0 ts rfl rfl ((CAt.new 58 w3 zeroCells58).there 0 _ (by rw[T.out];exact Nat.le_of_eq rfl)) (by rw[T.out,z3y];rfl) q2 l.bel ?_
   refine O.Z 15 up 5 rfl rfl l.bel (λf a=>?_) ?_
   ·go_simp
   refine O.Z 16 (.int .i64 W) 6 rfl rfl l.bel (λf a=>?_) ?_
   ·go_simp
   refine wpAnyH_done (by kernel_rfl) ?_ _
   obtain⟨gn,a0⟩:∃y,y=w3.heap.size:=⟨_,rfl⟩;rw[<-a0]at l⊢;simp only[O.pp,O.pb,O.pc];exact NoPanic.normal ⟨gn,ts,up,rfl,rfl,l⟩
  ·go_simp;refine C _ _ (d.alloc d.size _) ?_;clear C K;refine O.z1k (i:=8) (by kernel_rfl) rfl rfl (λK C=>?_)
   go_simp
   go_at_call 58
   refine(N.out _ (by with_reducible exact B.out)).mono ?_
   rintro e w3⟨u3,up,rfl,Y,Up,R⟩;dsimp only at Y Up;have hb:=zbt B.out R;obtain⟨ts,m⟩:∃y:Array Value,y=prC rp u3:=⟨_,rfl⟩;dsimp only;rw[<-m];have T:=J6 m;clear m;refine C _ _ hb ?_;clear C K;refine O.Z 9 (.tuple #[J4 ts,up,(.int .i64 W)]) 8 rfl rfl hb (λf a=>?_) ?_
   ·go_simp
   refine O.Z 10 (J4 ts) 18 rfl rfl hb (λf a=>?_) ?_
   ·go_simp
   refine O.Z 11 up 19 rfl rfl hb (λf a=>?_) ?_
   ·go_simp
   refine O.Z 12 (.int .i64 W) 20 rfl rfl hb (λf a=>?_) ?_
   ·go_simp
   have q2:ts.all (λx=>x.oneCell')=true:=by rw[T.out];exact z1m Y
   have R3:=X.out.over R;have l:=j3P Y Up (by simp) hb R3
   rw[<-T.out]at l;refine O.z0D (i:=14) (by kernel_rfl) rfl rfl 58 _ _ rfl rfl w.heap.size 0 ts rfl rfl (R3.there 0 _ (by rw[T.out];exact Nat.le_of_eq rfl)) (by rw[T.out,z3y];rfl) q2 l.bel ?_
   refine O.Z 15 up 5 rfl rfl l.bel (λf a=>?_) ?_
   ·go_simp
   refine O.Z 16 (.int .i64 W) 6 rfl rfl l.bel (λf a=>?_) ?_
   ·go_simp
   refine wpAnyH_done (by kernel_rfl) ?_ _
   obtain⟨gn,a0⟩:∃y,y=w.heap.size:=⟨_,rfl⟩;rw[<-a0]at l⊢;simp only[O.pp,O.pb,O.pc];exact NoPanic.normal ⟨gn,ts,up,rfl,rfl,l⟩
 rintro gn ts up w5 S5;obtain⟨Au,Du,rfl⟩:=S5.sl;have z:=J6 S5;have b7:=S5.le;have b5:=S5.cat.lt;clear S5 Q N B X;have b8:g≠gn:=by omega
 simp only[Exit.then];apply_assumption
 by_cases hE:W=0
 case neg =>
  replace HD:=J6 (HD.out.trans (if_neg hE));have b9:(W != 0)=true:=by simpa using hE
  go_wp2;go_ret2;rw[HD.out];exact⟨rfl,.same (HC.out.over z.out.bel) HI.out hg (Alt.of z.out.bel)⟩
 subst hE;replace HD:=J6 (HD.out.trans (if_pos rfl));obtain⟨u,E,U⟩:=z.out.ex;have m:ts.size=97:=by rw[E];rfl
 have l5:=z0l z.out.cat m;have s5:=j9b ((z8T x v rp u).there (HC.out.over z.out.bel)) (z0a _ _) (z1m U);have Z6:=q1S HI.out hg (Below.refl _ w) HC.out a3 z.out.bel (U.mono (P':=New P w 0) λb _ hb=>hb.1);have H:=z.out.cat.others (c:=g) (o:=2) (by omega) (prC rp u).toList
 have F:=λi hi=>z5B (U.lk i hi).said (z2a _) (by decide)
 have a8:=J6 F;have a1:Hid (PLp P w g gn x rp u 0 (w5.setCells g 2 (prC rp u).toList)):=⟨⟨x.hp,λj hj=>by omega,Z6⟩,by rw[E]at H;exact H⟩
 rw[<-E]at s5 a1;have c4:=J6 E;clear E;clear Z6 H F U m;generalize w5.setCells g 2 ts.toList=w6 at *
 go_upto_region 6 with fail
 clear l5 s5
 go_loopw [28] (λi wl=>∃(k:Nat),k<=2/\i=.int .i64 (k:Int)/\Hid (PLp P w g gn x rp u k wl)) (λi _=>2 - (intOf i).toNat)
 case atStart=>exact⟨0,by omega,rfl,a1⟩
 case round =>
  obtain⟨k,hk,rfl,HR⟩:=hrel;clear a1
  by_cases s:k<2
  ·have c5:(k:Int)<2:=by omega
   have hk0:(0:Int)<=(k:Int):=by omega
   obtain⟨hp',A,v6,M,I6,A6⟩:=HR.out.ex;obtain⟨As,Ds,es,-,-⟩:=a8.out k s;have H:=HR.out.cat;have b6:=M.lt;have a9:=H.lt;have n:=(Below.refl wr.heap.size wr).drew
   have a4:wr.drew.cell? ⟨gn,0,none⟩=some (.int .i64 rp.h)/\wr.drew.cell? ⟨gn,1,none⟩=some (.int .i64 rp.t)/\wr.drew.cell? ⟨gn,66+k*14+6,none⟩=some (J1 As (rp.L k).out.S.length Ds)/\wr.drew.cell? ⟨g,99+k*22+14+2,none⟩=some (.int .i64 (x.c k).out.g):=
    ⟨(H.over n).cell 0,(H.over n).cell 1,by rw[<-es];exact j0z (H.over n) s,j0P (M.over n) s⟩
   have V:=j8Z { x with p:=rp,hp:=hp' } v6 s (z5u rp x.c k)
   have a5:=J6 V;have D7:=(H.over n).others (c:=g) (o:=143+k*8) (by omega) (hdL (z5u rp x.c k))
   have C7:=V.sets (M.over n)
   have a6:Hid ((wr.drew.setCells g (143+k*8) (hdL (z5u rp x.c k))).cell? ⟨gn,0,none⟩=some (.int .i64 rp.h)/\(wr.drew.setCells g (143+k*8) (hdL (z5u rp x.c k))).cell? ⟨gn,1,none⟩=some (.int .i64 rp.t)/\(wr.drew.setCells g (143+k*8) (hdL (z5u rp x.c k))).cell? ⟨gn,66+k*14+6,none⟩=some (J1 As (rp.L k).out.S.length Ds)/\(wr.drew.setCells g (143+k*8) (hdL (z5u rp x.c k))).cell? ⟨g,99+k*22+14+2,none⟩=some (.int .i64 (x.c k).out.g)):=
    ⟨D7.cell 0,D7.cell 1,by rw[<-es];exact j0z D7 s,j0P C7 s⟩
   have a7:¬ New P w 0 g:=Pv.z0R hg a3;have Z7:=j8h (I6.over n) a7 (M.over n) V rfl rfl
   have b4:Hid (PLp P w g gn x rp u (k+1) (wr.drew.setCells g (143+k*8) (hdL (z5u rp x.c k)))):=by
    refine⟨⟨q7g hp' k (z5u rp x.c k),λj hj=>?_,z1h.trans A6 (z1h.trans (Alt.of (g:=g) n) (Z7.q3P a7))⟩,D7⟩;unfold q7g
    by_cases e:j=k
    ·rw[if_pos e,e]
    ·rw[if_neg e];exact A j (by omega)
   have HX:=J6 (show _/\_ from⟨M,I6⟩);clear M I6 A6 H D7 C7 Z7 V n es A
   go_upto_region 8 with fail
   refine wp_region_held_drew (S:=λf=>f.cell? ⟨gn,0,none⟩=some (.int .i64 rp.h)/\f.cell? ⟨gn,1,none⟩=some (.int .i64 rp.t)/\f.cell? ⟨gn,66+k*14+6,none⟩=some (J1 As (rp.L k).out.S.length Ds)/\f.cell? ⟨g,99+k*22+14+2,none⟩=some (.int .i64 (x.c k).out.g)) (by kernel_rfl) a4 (λd=>?_)
   refine O.G 0 (J2 (some ⟨g,0,none⟩)) 31 rfl rfl d ?_;refine O.G 1 (.int .i64 (k:Int)) 32 rfl rfl d ?_;refine O.G 2 (J2 (some ⟨gn,0,none⟩)) 33 rfl rfl d ?_;refine O.Z 3 (.int .i64 rp.h) 34 rfl rfl d (λf a=>by obtain⟨l1,l2,l3,l4⟩:=a;go_simp) ?_
   refine O.G 4 (J2 (some ⟨gn,1,none⟩)) 35 rfl rfl d ?_;refine O.Z 5 (.int .i64 rp.t) 36 rfl rfl d (λf a=>by obtain⟨l1,l2,l3,l4⟩:=a;go_simp) ?_
   refine O.G 6 (.int .i64 (k:Int)) 37 rfl rfl d ?_;refine O.G 7 (J2 (some ⟨gn,66,none⟩)) 38 rfl rfl d ?_;refine O.G 8 (J2 (some ⟨gn,66+k*14,none⟩)) 39 rfl rfl d ?_;refine O.G 9 (J2 (some ⟨gn,66+k*14+6,none⟩)) 40 rfl rfl d ?_;refine O.G 10 (J2 (some ⟨gn,66+k*14+6,none⟩)) 41 rfl rfl d ?_;refine O.Z 11 (J1 As (rp.L k).out.S.length Ds) 42 rfl rfl d (λf a=>by obtain⟨l1,l2,l3,l4⟩:=a;go_simp) ?_
   refine O.G 12 (.int .i64 ((rp.L k).out.S.length:Int)) 43 rfl rfl d ?_;refine O.G 13 (J2 (some ⟨g,0,none⟩)) 44 rfl rfl d ?_;refine O.G 14 (.int .i64 (k:Int)) 45 rfl rfl d ?_;refine O.G 15 (J2 (some ⟨g,0,none⟩)) 46 rfl rfl d ?_;refine O.G 16 (J2 (some ⟨g,99,none⟩)) 47 rfl rfl d ?_;refine O.G 17 (J2 (some ⟨g,99+k*22,none⟩)) 48 rfl rfl d ?_;refine O.G 18 (J2 (some ⟨g,99+k*22+14,none⟩)) 49 rfl rfl d ?_;refine O.G 19 (J2 (some ⟨g,99+k*22+14+2,none⟩)) 50 rfl rfl d ?_;refine O.Z 20 (.int .i64 (x.c k).out.g) 51 rfl rfl d (λf a=>by obtain⟨l1,l2,l3,l4⟩:=a;go_simp) ?_
   refine O.G 21 (J4 #[.int .i64 rp.h,.int .i64 rp.t,.int .i64 ((rp.L k).out.S.length:Int),.int .i64 (x.c k).out.g]) 52 rfl rfl d ?_;refine O.G 22 (J2 (some ⟨g,0,none⟩)) 53 rfl rfl d ?_;refine O.G 23 (J2 (some ⟨g,143,none⟩)) 54 rfl rfl d ?_;refine O.G 24 (J2 (some ⟨g,143+k*8,none⟩)) 55 rfl rfl d ?_;refine O.G 25 (J2 (some ⟨g,143+k*8,none⟩)) 56 rfl rfl d ?_;have q1:(Option.map (λx=>x.size) (prog.info? 50))=some (#[.int .i64 rp.h,.int .i64 rp.t,.int .i64 ((rp.L k).out.S.length:Int),.int .i64 (x.c k).out.g]:Array Value).size:=by rw[q3U];rfl
   have q2:(#[.int .i64 rp.h,.int .i64 rp.t,.int .i64 ((rp.L k).out.S.length:Int),.int .i64 (x.c k).out.g]:Array Value).all (λx=>x.oneCell')=true:=by simp[Value.oneCell']
   have q3:wr.drew.there g (143+k*8) (#[.int .i64 rp.h,.int .i64 rp.t,.int .i64 ((rp.L k).out.S.length:Int),.int .i64 (x.c k).out.g]:Array Value).size:=a5.out.there (HX.out.1.over (Below.refl wr.heap.size wr).drew);simp only[O.pp,O.pb,O.pc];refine O.z0D (i:=26) (by kernel_rfl) rfl rfl 50 _ _ rfl rfl g (143+k*8) #[.int .i64 rp.h,.int .i64 rp.t,.int .i64 ((rp.L k).out.S.length:Int),.int .i64 (x.c k).out.g] rfl rfl q3 q1 q2 a6.out ?_
   refine wpAnyH_done (by kernel_rfl) ?_ _
   change Exit.inBlock _ _ _ _ (wr.drew.setCells g (143+k*8) (hdL (z5u rp x.c k)));clear q1 q2 q3 d a4 a6 HX a5;generalize wr.drew.setCells g (143+k*8) (hdL (z5u rp x.c k))=w7 at *;go_simp;go_wp2;exact⟨⟨k+1,by omega,by go_num,b4⟩,by simp[intOf];omega⟩
  ·obtain rfl:k=2:=by omega
   obtain⟨hp',A,v6,M,I6,A6⟩:=HR.out.ex
   have e:wdC { x with p:=rp,hp:=hp' } v6=wdC { x with p:=rp,hp:=z5u rp x.c} v6:=by
    unfold wdC;dsimp only;rw[A 0 (by omega),A 1 (by omega)]
   rw[e]at M;have HZ:Hid (z1h P w g { x with p:=rp,hp:=z5u rp x.c} wr):=⟨v6,M,⟨I6.p,I6.c⟩,A6⟩
   clear M I6 A6 e HR A;go_wp2;go_ret2;rw[HD.out];exact⟨rfl,HZ.out⟩
end Wd
namespace Wd
open Go.RowKit Pv Kc
theorem q2F:(prog.info? 169).map (·.size)=some 3:=by kernel_rfl
theorem q3V(g i:Nat)(l:i<2)(w:World) :
  Calls prog 84 #[J2 (some ⟨g,0,none⟩),J I (i:Int),J3 true] w λe w'=>e=.returned (J4 #[(J2 (some ⟨g,99+i*22+14,none⟩)),(J2 (some ⟨g,99+i*22+18,none⟩)),(J2 (some ⟨g,68+i*14+10,none⟩))])/\Bl w w':=by
 have j:(i:Int)<2:=by omega
 have k:(0:Int)<=(i:Int):=by omega
 go_enter func84,ntmps84
 go_upto_region 1 with fail
 have c:=CAt.new 169 w #[.pointer none,.pointer none,.pointer none];have b0:Bl w (w.alloc (J5 #[.pointer none,.pointer none,.pointer none] 169)):=znw w _;generalize w.alloc (J5 #[.pointer none,.pointer none,.pointer none] 169)=w0 at *;have b:=J6 (show _/\_ from⟨c,b0⟩);clear c b0;go_quiet (fail);simp only[Exit.then];apply_assumption;have d:=b.out.1.over (below_drewN (Below.refl w0.heap.size w0) nq);have b1:=below_drewN b.out.2 nq;clear b;generalize w0.drewN nq=w1 at *
 go_upto_region 3 with fail
 refine wp_region_held_drew (S:=λ_=>True) (by kernel_rfl) trivial (λa=>?_)
 refine O.G 0 (J2 (some ⟨g,99+i*22,none⟩)) 21 rfl rfl a ?_;refine O.G 1 (J2 (some ⟨g,99+i*22,none⟩)) 22 rfl rfl a ?_;refine O.G 2 (J2 (some ⟨g,99+i*22+14,none⟩)) 23 rfl rfl a ?_;refine O.G 3 (J2 (some ⟨g,99+i*22,none⟩)) 24 rfl rfl a ?_;refine O.G 4 (J2 (some ⟨g,99+i*22,none⟩)) 25 rfl rfl a ?_;refine O.G 5 (J2 (some ⟨g,99+i*22+18,none⟩)) 26 rfl rfl a ?_;refine O.G 6 (J2 (some ⟨g,68+i*14,none⟩)) 27 rfl rfl a ?_;refine O.G 7 (J2 (some ⟨g,68+i*14,none⟩)) 28 rfl rfl a ?_;refine O.G 8 (J2 (some ⟨g,68+i*14+10,none⟩)) 29 rfl rfl a ?_;refine O.G 9 (J4 #[(J2 (some ⟨g,99+i*22+14,none⟩)),(J2 (some ⟨g,99+i*22+18,none⟩)),(J2 (some ⟨g,68+i*14+10,none⟩))]) 30 rfl rfl a ?_;have q1:(Option.map (λx=>x.size) (prog.info? 169))=some (#[(J2 (some ⟨g,99+i*22+14,none⟩)),(J2 (some ⟨g,99+i*22+18,none⟩)),(J2 (some ⟨g,68+i*14+10,none⟩))]:Array Value).size:=by rw[q2F];rfl
 have q2:(#[(J2 (some ⟨g,99+i*22+14,none⟩)),(J2 (some ⟨g,99+i*22+18,none⟩)),(J2 (some ⟨g,68+i*14+10,none⟩))]:Array Value).all (λx=>x.oneCell')=true:=by simp[Value.oneCell']
 have q3:w1.drew.there w.heap.size 0 (#[(J2 (some ⟨g,99+i*22+14,none⟩)),(J2 (some ⟨g,99+i*22+18,none⟩)),(J2 (some ⟨g,68+i*14+10,none⟩))]:Array Value).size:=(d.over (Below.refl w1.heap.size w1).drew).there 0 _ (by exact Nat.le_refl _)
 simp only[O.pp,O.pb,O.pc];refine O.z0D (i:=10) (by kernel_rfl) rfl rfl 169 _ _ rfl rfl w.heap.size 0 #[(J2 (some ⟨g,99+i*22+14,none⟩)),(J2 (some ⟨g,99+i*22+18,none⟩)),(J2 (some ⟨g,68+i*14+10,none⟩))] rfl rfl q3 q1 q2 trivial ?_
 refine wpAnyH_done (by kernel_rfl) ?_ _
 have f:=(d.over (Below.refl w1.heap.size w1).drew).z0L (ds:=#[(J2 (some ⟨g,99+i*22+14,none⟩)),(J2 (some ⟨g,99+i*22+18,none⟩)),(J2 (some ⟨g,68+i*14+10,none⟩))]) rfl;have b2:=z0b (Nat.le_refl _) (#[(J2 (some ⟨g,99+i*22+14,none⟩)),(J2 (some ⟨g,99+i*22+18,none⟩)),(J2 (some ⟨g,68+i*14+10,none⟩))]:Array Value).toList 0 _ (b1.trans ((Below.refl w1.heap.size w1).drew.mono b1.size));have h:=J6 (show _/\_ from⟨f,b2⟩);clear f b2 q1 q2 q3;generalize w1.drew.setCells w.heap.size 0 (#[(J2 (some ⟨g,99+i*22+14,none⟩)),(J2 (some ⟨g,99+i*22+18,none⟩)),(J2 (some ⟨g,68+i*14+10,none⟩))]:Array Value).toList=w2 at *;go_simp;go_wp2;exact bodyPost_ret (v:=J4 #[(J2 (some ⟨g,99+i*22+14,none⟩)),(J2 (some ⟨g,99+i*22+18,none⟩)),(J2 (some ⟨g,68+i*14+10,none⟩))]) (results_cell_row results84 _ _ w.heap.size 169 #[(J2 (some ⟨g,99+i*22+14,none⟩)),(J2 (some ⟨g,99+i*22+18,none⟩)),(J2 (some ⟨g,68+i*14+10,none⟩))] (0,0) _ rfl h.out.1 underlying169 rfl (by kernel_rfl)) rfl ⟨rfl,h.out.2⟩
theorem q1D(g i:Nat)(l:i<2)(w:World) :
  Calls prog 84 #[J2 (some ⟨g,0,none⟩),J I (i:Int),J3 false] w λe w'=>e=.returned (J4 #[(J2 (some ⟨g,68+i*14+6,none⟩)),(J2 (some ⟨g,68+i*14+10,none⟩)),(J2 (some ⟨g,99+i*22+18,none⟩))])/\Bl w w':=by
 have j:(i:Int)<2:=by omega
 have k:(0:Int)<=(i:Int):=by omega
 go_enter func84,ntmps84
 go_upto_region 1 with fail
 have c:=CAt.new 169 w #[.pointer none,.pointer none,.pointer none];have b0:Bl w (w.alloc (J5 #[.pointer none,.pointer none,.pointer none] 169)):=znw w _;generalize w.alloc (J5 #[.pointer none,.pointer none,.pointer none] 169)=w0 at *;have b:=J6 (show _/\_ from⟨c,b0⟩);clear c b0;go_quiet (fail);simp only[Exit.then];apply_assumption;have d:=b.out.1.over (below_drewN (Below.refl w0.heap.size w0) nq);have b1:=below_drewN b.out.2 nq;clear b;generalize w0.drewN nq=w1 at *
 go_upto_region 4 with fail
 refine wp_region_held_drew (S:=λ_=>True) (by kernel_rfl) trivial (λa=>?_)
 refine O.G 0 (J2 (some ⟨g,68+i*14,none⟩)) 31 rfl rfl a ?_;refine O.G 1 (J2 (some ⟨g,68+i*14,none⟩)) 32 rfl rfl a ?_;refine O.G 2 (J2 (some ⟨g,68+i*14+6,none⟩)) 33 rfl rfl a ?_;refine O.G 3 (J2 (some ⟨g,68+i*14,none⟩)) 34 rfl rfl a ?_;refine O.G 4 (J2 (some ⟨g,68+i*14,none⟩)) 35 rfl rfl a ?_;refine O.G 5 (J2 (some ⟨g,68+i*14+10,none⟩)) 36 rfl rfl a ?_;refine O.G 6 (J2 (some ⟨g,99+i*22,none⟩)) 37 rfl rfl a ?_;refine O.G 7 (J2 (some ⟨g,99+i*22,none⟩)) 38 rfl rfl a ?_;refine O.G 8 (J2 (some ⟨g,99+i*22+18,none⟩)) 39 rfl rfl a ?_;refine O.G 9 (J4 #[(J2 (some ⟨g,68+i*14+6,none⟩)),(J2 (some ⟨g,68+i*14+10,none⟩)),(J2 (some ⟨g,99+i*22+18,none⟩))]) 40 rfl rfl a ?_;have q1:(Option.map (λx=>x.size) (prog.info? 169))=some (#[(J2 (some ⟨g,68+i*14+6,none⟩)),(J2 (some ⟨g,68+i*14+10,none⟩)),(J2 (some ⟨g,99+i*22+18,none⟩))]:Array Value).size:=by rw[q2F];rfl
 have q2:(#[(J2 (some ⟨g,68+i*14+6,none⟩)),(J2 (some ⟨g,68+i*14+10,none⟩)),(J2 (some ⟨g,99+i*22+18,none⟩))]:Array Value).all (λx=>x.oneCell')=true:=by simp[Value.oneCell']
 have q3:w1.drew.there w.heap.size 0 (#[(J2 (some ⟨g,68+i*14+6,none⟩)),(J2 (some ⟨g,68+i*14+10,none⟩)),(J2 (some ⟨g,99+i*22+18,none⟩))]:Array Value).size:=(d.over (Below.refl w1.heap.size w1).drew).there 0 _ (by exact Nat.le_refl _)
 simp only[O.pp,O.pb,O.pc];refine O.z0D (i:=10) (by kernel_rfl) rfl rfl 169 _ _ rfl rfl w.heap.size 0 #[(J2 (some ⟨g,68+i*14+6,none⟩)),(J2 (some ⟨g,68+i*14+10,none⟩)),(J2 (some ⟨g,99+i*22+18,none⟩))] rfl rfl q3 q1 q2 trivial ?_
 refine wpAnyH_done (by kernel_rfl) ?_ _
 have f:=(d.over (Below.refl w1.heap.size w1).drew).z0L (ds:=#[(J2 (some ⟨g,68+i*14+6,none⟩)),(J2 (some ⟨g,68+i*14+10,none⟩)),(J2 (some ⟨g,99+i*22+18,none⟩))]) rfl;have b2:=z0b (Nat.le_refl _) (#[(J2 (some ⟨g,68+i*14+6,none⟩)),(J2 (some ⟨g,68+i*14+10,none⟩)),(J2 (some ⟨g,99+i*22+18,none⟩))]:Array Value).toList 0 _ (b1.trans ((Below.refl w1.heap.size w1).drew.mono b1.size));have h:=J6 (show _/\_ from⟨f,b2⟩);clear f b2 q1 q2 q3;generalize w1.drew.setCells w.heap.size 0 (#[(J2 (some ⟨g,68+i*14+6,none⟩)),(J2 (some ⟨g,68+i*14+10,none⟩)),(J2 (some ⟨g,99+i*22+18,none⟩))]:Array Value).toList=w2 at *;go_simp;go_wp2;exact bodyPost_ret (v:=J4 #[(J2 (some ⟨g,68+i*14+6,none⟩)),(J2 (some ⟨g,68+i*14+10,none⟩)),(J2 (some ⟨g,99+i*22+18,none⟩))]) (results_cell_row results84 _ _ w.heap.size 169 #[(J2 (some ⟨g,68+i*14+6,none⟩)),(J2 (some ⟨g,68+i*14+10,none⟩)),(J2 (some ⟨g,99+i*22+18,none⟩))] (0,0) _ rfl h.out.1 underlying169 rfl (by kernel_rfl)) rfl ⟨rfl,h.out.2⟩
theorem q1E(g o:Nat)(l:Ln.Line)(v1:Value)(P:Nat->Prop)(w:World)(h1:z0U P w v1 1 16 (txC l.S))(c0:w.cell? ⟨g,o,none⟩=some v1)(c2:w.cell? ⟨g,o+2,none⟩=some (.int .i64 l.g))(h0:0<=l.g) :
  Calls prog 85 #[J2 (some ⟨g,o,none⟩)] w λe w'=>e=.returned (.string (z3Z l))/\Bl w w':=by
 obtain⟨A,C,rfl,R,-⟩:=z5B h1 (z2a l.S) (by decide)
 have m:z3Z l=if(l.S.length:Int)<=l.g then ByteArray.empty else l.S.getD l.g.toNat ByteArray.empty:=by unfold z3Z;rfl
 generalize z3Z l=D at *;have HD:=J6 m;have HR:=J6 R;clear m h1 R
 go_enter func85,ntmps85
 go_upto_region 1 with fail
 go_quiet (fail);simp only[Exit.then];apply_assumption;have hb:=below_drewN (Below.refl w.heap.size w) nq;have t:(w.drewN nq).cell? ⟨g,o,none⟩=some (J1 A l.S.length C):=c0;have n:(w.drewN nq).cell? ⟨g,o+2,none⟩=some (.int .i64 l.g):=c2;have a:Hid (Row (w.drewN nq) A l.S.length C 1 (txC l.S)):=⟨HR.out.len,HR.out.nil,HR.out.at_⟩;clear c0 c2 HR;generalize w.drewN nq=w1 at *;have f:=J6 hb;clear hb
 by_cases c:(l.S.length:Int)<=l.g
 ·have hd:=HD.out.trans (if_pos c);have d:=J6 hd;clear hd HD;have p:l.g≥(l.S.length:Int):=c;go_wp2;go_ret;rw[d.out];exact⟨rfl,f.out⟩
 ·have hd:=HD.out.trans (if_neg c);obtain⟨k,q⟩:∃k:Nat,l.g=(k:Int):=⟨l.g.toNat,by omega⟩
  rw[q]at n hd c;have i:k<l.S.length:=by omega
  rw[Int.toNat_natCast]at hd;have r:(k:Int)<(l.S.length:Int):=by omega
  have hk0:(0:Int)<=(k:Int):=by omega
  have s:∃b off,A=some ⟨b,off,none⟩/\w1.cell? ⟨b,off+k,none⟩=some (.string (l.S.getD k ByteArray.empty)):=by
   cases A with
   | none=>have:=(a.out.nil rfl).1;omega
   | some ad =>
    have h:=a.out.at_ ad rfl k _ (z8h l.S k i);have j:=a.out.at_ ad rfl 0 _ (z8h l.S 0 (by omega))
    obtain⟨b,off,sp⟩:=ad;have hs:sp=none:=by simpa [Addr.add] using World.cell?_spot j
    subst hs;rw[Addr.add_lit]at h;exact⟨b,off,rfl,h⟩
  obtain⟨b,off,rfl,hs⟩:=s;generalize l.S.getD k ByteArray.empty=tx at *;have d:=J6 hd;clear hd HD a
  go_upto_region 3 with fail
  go_quiet (fail);go_wp2;go_ret;rw[d.out]
  first|exact⟨rfl,below_drewN f.out _⟩|exact⟨rfl,f.out⟩
theorem q1b(s:ByteArray)(w:World)(hs:s.size<=1000):Calls prog 86 #[.string s] w λe w'=>e=.returned (.string (q2W s))/\Bl w w':=by
 have a:=J6 (Cd.z6E 3 1 0 ((s.size:Int)+1) [] [] none none 0 0 0 0 0 0 w ⟨by simp,by simp,λh=>absurd h (by simp),λh=>absurd h (by simp),λi h=>absurd h (by simp),λi h=>absurd h (by simp)⟩)
 have c:IntKind.i64.wrap ((s.size:Int)+1)=(s.size:Int)+1:=z5z (by omega) (by omega)
 unfold q2W;generalize Cd.encS 3 1 0 ((s.size:Int)+1) [] []=E at *;generalize Cd.z0n 3 1 0 ((s.size:Int)+1) [] []=N at *
 go_enter func86,ntmps86
 go_wp2_with (go_at_call 117;refine a.out.mono ?_;rintro e w1⟨rfl,b⟩)
 go_ret;exact⟨rfl,b⟩
structure j8I(P:Nat->Prop)(w0:World)(l:Ln.Line)(gn:Nat)(ts:Array Value)(w:World):Prop where
 ex:∃u1 u2,ts=#[u1,u2,J I l.g,J3 l.cl]/\z0U (λb=>New P w0 0 b/\b≠gn) w u1 1 16 (txC l.S)/\z0U (λb=>New P w0 0 b/\b≠gn) w u2 1 8 (inC l.D)
 cat:CAt 48 w gn ts
 bel:Bl w0 w
 le:w0.heap.size<=gn
def Z4':Array Value:=#[J1 none 0 0,J1 none 0 0,J I 0,J3 false]
theorem z0U.sets{P:Nat->Prop}{w:World}{v:Value}{sz bts:Nat}{cs:List Value}(h:z0U P w v sz bts cs){g:Nat}(c:¬ P g)(o:Nat)(a:List Value):z0U P (w.setCells g o a) v sz bts cs:=h.keep λb hb _=>z1l (show b≠g from λe=>c (by rw[<-e];exact hb)) a o w
theorem z3r{P Q:Nat->Prop}{w w':World}{u1 u2:Value}{s t d e:Nat}{a b:List Value}(h1:z0U P w u1 s t a)(h2:z0U Q w' u2 d e b)(n:Int)(c:Bool):(#[u1,u2,J I n,J3 c]:Array Value).all (·.oneCell')=true:=by
 obtain⟨A,k,C,D,rfl,-⟩:=h1;obtain⟨B,m,E,F,rfl,-⟩:=h2
 simp[Value.oneCell']
theorem z7v{P:Nat->Prop}{w0 c a:World}{l:Ln.Line}{u1 u2:Value}(h1:z0U (New (λb=>P b/\b<w0.heap.size) c 0) a u1 1 16 (txC l.S))(h2:z0U (New (λb=>P b/\b<w0.heap.size) c 0) a u2 1 8 (inC l.D))(e:c.heap.size=w0.heap.size)(hb:Bl w0 a):j8I P w0 l a.heap.size #[u1,u2,J I l.g,J3 l.cl] ((a.alloc (J5 Z4' 48)).setCells a.heap.size 0 (#[u1,u2,J I l.g,J3 l.cl]:Array Value).toList):=by
 have d:Bl a ((a.alloc (J5 Z4' 48)).setCells a.heap.size 0 (#[u1,u2,J I l.g,J3 l.cl]:Array Value).toList):=z0b (Nat.le_refl _) _ _ _ (znw a _)
 have key:∀b,b<a.heap.size->New (λb=>P b/\b<w0.heap.size) c 0 b->New P w0 0 b/\b≠a.heap.size:=λb f hp=>⟨by
  rcases hp with⟨hp,_⟩|hp
  ·exact .inl hp
  ·exact .inr (by omega),by omega⟩
 exact⟨⟨u1,u2,rfl,(h1.mono key).over d,(h2.mono key).over d⟩,(CAt.new 48 a Z4').z0L rfl,zbt hb d,hb.size⟩
theorem z7z{P:Nat->Prop}{w0 c a:World}{l:Ln.Line}{u1 u2:Value}(h1:z0U (New (λb=>P b/\b<w0.heap.size) c 0) a u1 1 16 (txC l.S))(h2:z0U (New (λb=>P b/\b<w0.heap.size) c 0) a u2 1 8 (inC l.D))(d:c.heap.size=w0.heap.size+1)(hb:Bl w0 a)(hc:CAt 48 a w0.heap.size Z4'):j8I P w0 l w0.heap.size #[u1,u2,J I l.g,J3 l.cl] (a.setCells w0.heap.size 0 (#[u1,u2,J I l.g,J3 l.cl]:Array Value).toList):=by
 have key:∀b,b<a.heap.size->New (λb=>P b/\b<w0.heap.size) c 0 b->New P w0 0 b/\b≠w0.heap.size:=λb f hp=>by
  rcases hp with⟨hp,_⟩|hp
  ·exact⟨.inl hp,by omega⟩
  ·exact⟨.inr (by omega),by omega⟩
 exact⟨⟨u1,u2,rfl,z0U.sets (h1.mono key) (λe=>e.2 rfl) _ _,z0U.sets (h2.mono key) (λe=>e.2 rfl) _ _⟩,hc.z0L rfl,z0b (Nat.le_refl _) _ _ _ hb,Nat.le_refl _⟩
def q9N(a v:Value):Sem Unit:=Instr.storeAt 169 a v
theorem z4T(a v:Value):Instr.storeAt 169 a v=q9N a v:=rfl
theorem q0K(w1:World)(p q r:Value)(h:(#[p,q,r]:Array Value).all (·.oneCell')=true):∃a,(q9N (J2 (some ⟨w1.heap.size,0,none⟩)) (J4 #[p,q,r])).run prog (w1.alloc (J5 #[.pointer none,.pointer none,.pointer none] 169))=.ok () a/\CAt 169 a w1.heap.size #[p,q,r]/\Bl w1 a:=by
 have R0:=CAt.new 169 w1 #[.pointer none,.pointer none,.pointer none];exact⟨_,run_storeAt_mid (P:=prog) _ _ 0 169 #[p,q,r] (R0.there 0 _ (Nat.le_refl _)) (by rw[q2F];rfl) h,R0.z0L rfl,z0b (Nat.le_refl _) _ _ _ (znw w1 _)⟩
theorem q1m(x:Wo)(v:WoV){i:Nat}(a:i<2)(l:Ln.Line)(u1 u2:Value):At (wdC x v) (99+i*22+14) (lnL (x.c i).out (v.c i).said (v.c i).due) (lnL l u1 u2) (wdC (z1j x i true l) (v.upd i { v.c i with said:=u1,due:=u2})):=
 (q1x x v a { x.c i with out:=l} { v.c i with said:=u1,due:=u2}).nest (by simpa using q0B (x.c i) (v.c i) l u1 u2)
theorem q1L(x:Wo)(v:WoV){i:Nat}(a:i<2)(l:Ln.Line)(u1 u2:Value):At (wdC x v) (68+i*14+6) (lnL (x.p.L i).out (v.p.l i).said (v.p.l i).due) (lnL l u1 u2) (wdC (z1j x i false l) { v with p:=v.p.upd i { v.p.l i with said:=u1,due:=u2}}):=by
 have h:=(z8T x v { x.p with L:=z0P x.p.L i { x.p.L i with out:=l}} (v.p.upd i { v.p.l i with said:=u1,due:=u2})).nest ((q8z x.p v.p a { x.p.L i with out:=l} { v.p.l i with said:=u1,due:=u2}).nest (q8g (x.p.L i) (v.p.l i) l u1 u2))
 rw[show 2+(66+i*14+6)=68+i*14+6 by omega]at h
 exact h
theorem q9e{P:Nat->Prop}{w:World}{g:Nat}{x:Wo}{v:WoV}(n:WIn P w x v)(a:¬ P g)(C0:CAt 97 w g (wdC x v)){i:Nat}(f:i<2){l:Ln.Line}{u1 u2:Value}(h1:z0U P w u1 1 16 (txC l.S))(h2:z0U P w u2 1 8 (inC l.D)):z1h P w g (z1j x i true l) (w.setCells g (99+i*22+14) (lnL l u1 u2)):=by
 have j:Alt g w (w.setCells g (99+i*22+14) (lnL l u1 u2)):=(Alt.refl g w).sets _ _;have h:=n.new a j 0;refine⟨_,(q1m x v f l u1 u2).sets C0,⟨h.p,λk o=>?_⟩,j⟩
 show CIn _ _ (z2k x.c i { x.c i with out:=l} k) (if k=i then { v.c i with said:=u1,due:=u2} else v.c k)
 unfold z2k
 by_cases e:k=i
 ·rw[if_pos e,if_pos e];have hc:=h.c i f;have m:∀b,b<(w.setCells g (99+i*22+14) (lnL l u1 u2)).heap.size->(P b/\b<w.heap.size)->New P w 0 b:=λb _ hb=>.inl hb;exact⟨hc.set,hc.pd,hc.rp,(z0U.sets (h1.mono (P':=λb=>P b/\b<w.heap.size) λb d hp=>⟨hp,d⟩) (λe=>a e.1) _ _).mono m,(z0U.sets (h2.mono (P':=λb=>P b/\b<w.heap.size) λb d hp=>⟨hp,d⟩) (λe=>a e.1) _ _).mono m⟩
 ·rw[if_neg e,if_neg e];exact h.c k o
theorem q7L{P:Nat->Prop}{w:World}{g:Nat}{x:Wo}{v:WoV}(n:WIn P w x v)(a:¬ P g)(C0:CAt 97 w g (wdC x v)){i:Nat}(f:i<2){l:Ln.Line}{u1 u2:Value}(h1:z0U P w u1 1 16 (txC l.S))(h2:z0U P w u2 1 8 (inC l.D)):z1h P w g (z1j x i false l) (w.setCells g (68+i*14+6) (lnL l u1 u2)):=by
 have j:Alt g w (w.setCells g (68+i*14+6) (lnL l u1 u2)):=(Alt.refl g w).sets _ _;have h:=n.new a j 0;refine⟨_,(q1L x v f l u1 u2).sets C0,⟨⟨h.p.ws,h.p.set,λk o=>?_,h.p.q⟩,h.c⟩,j⟩
 show z5M _ _ (z0P x.p.L i { x.p.L i with out:=l} k) (if k=i then { v.p.l i with said:=u1,due:=u2} else v.p.l k)
 unfold z0P
 by_cases e:k=i
 ·rw[if_pos e,if_pos e];have hc:=h.p.lk i f;have m:∀b,b<(w.setCells g (68+i*14+6) (lnL l u1 u2)).heap.size->(P b/\b<w.heap.size)->New P w 0 b:=λb _ hb=>.inl hb;exact⟨hc.told,hc.done,(z0U.sets (h1.mono (P':=λb=>P b/\b<w.heap.size) λb d hp=>⟨hp,d⟩) (λe=>a e.1) _ _).mono m,(z0U.sets (h2.mono (P':=λb=>P b/\b<w.heap.size) λb d hp=>⟨hp,d⟩) (λe=>a e.1) _ _).mono m⟩
 ·rw[if_neg e,if_neg e];exact h.p.lk k o
theorem q0d{w:World}{g:Nat}{x:Wo}{v:WoV}(h:CAt 97 w g (wdC x v)){i:Nat}(a:i<2):w.cell? ⟨g,99+i*22+18+1,none⟩=some (J I (x.c i).h1)/\w.cell? ⟨g,99+i*22+18+2,none⟩=some (J I (x.c i).h2)/\w.cell? ⟨g,99+i*22+18+3,none⟩=some (J I (x.c i).h3):=by
 rw[h.cell,h.cell,h.cell]
 match i,a with
 | 0,_=>exact⟨rfl,rfl,rfl⟩
 | 1,_=>exact⟨rfl,rfl,rfl⟩
theorem q0y{w:World}{g:Nat}{x:Wo}{v:WoV}(h:CAt 97 w g (wdC x v)){i:Nat}(a:i<2):w.cell? ⟨g,68+i*14+10+1,none⟩=some (J I (x.p.L i).h1)/\w.cell? ⟨g,68+i*14+10+2,none⟩=some (J I (x.p.L i).h2)/\w.cell? ⟨g,68+i*14+10+3,none⟩=some (J I (x.p.L i).h3):=by
 rw[h.cell,h.cell,h.cell]
 match i,a with
 | 0,_=>exact⟨rfl,rfl,rfl⟩
 | 1,_=>exact⟨rfl,rfl,rfl⟩
theorem z9g{w:World}{g o:Nat}{a b c d:Value}(h:w.rangeAt g o [a,b,c,d]):w.cell? ⟨g,o,none⟩=some a/\w.cell? ⟨g,o+2,none⟩=some c:=⟨by simpa using h 0 a rfl,h 2 c rfl⟩
end Wd
namespace Wd
open Go.RowKit Pv Kc
attribute [local go_sem ↓] z3x z2E z4T
theorem y1e(f:Bool)(g:Nat)(x:Wo)(v:WoV)(P:Nat->Prop)(w:World)(i:Nat)(V:i<2)(hC:CAt 97 w g (wdC x v))(hI:WIn P w x v)(hg:¬ P g)(a0:Ln.z1a (z0Y x i false)=true)(a1:small (z0Y x i false).S)(W:x.p.q.length*88<=140737488351232)(a7:(x.c i).pd.length*80<=140737488351232) :
  Calls prog 63 #[J2 (some ⟨g,0,none⟩),.int .i64 (i:Int),J3 false,J3 f] w (q0Q P w g (z7s x i false f)):=by
 have hD:z7s x i false f=if Ln.z4B (x.p.L i).out ((x.p.L i).out.g+1) (z0t x i false f) (x.c i).h2 x.ck=0 then(if(z1B x i false (z0t x i false f)).2=0 then(z1j (z1B x i false (z0t x i false f)).1 i false (Ln.z5L (x.p.L i).out ((x.p.L i).out.g+1) (z0t x i false f) (x.c i).h2 x.ck),(x.p.L i).out.g+1,0)else((z1B x i false (z0t x i false f)).1,0,(z1B x i false (z0t x i false f)).2))else(x,0,Ln.z4B (x.p.L i).out ((x.p.L i).out.g+1) (z0t x i false f) (x.c i).h2 x.ck):=rfl;have a8:Ln.z4B (x.p.L i).out ((x.p.L i).out.g+1) (z0t x i false f) (x.c i).h2 x.ck=0->(Ln.z5L (x.p.L i).out ((x.p.L i).out.g+1) (z0t x i false f) (x.c i).h2 x.ck).g=(x.p.L i).out.g+1:=λh=>by rw[q0h h]
 change Ln.z1a (x.p.L i).out=true at a0;change small (x.p.L i).out.S at a1;obtain⟨-,d5,-,a9,d6⟩:=(z1A _).1 a0
 have b4:(z3Z (x.p.L i).out).size<=100:=by
  unfold z3Z
  split
  ·decide
  ·rename_i hn;refine a1 _ ?_;rw[List.getD_eq_getElem?_getD,List.getElem?_eq_getElem (by omega)]
   exact List.getElem_mem _
 have b5:(z0t x i false f).size<=maxLen:=by
  have hm:(1000:Nat)<=maxLen:=by decide
  have h2:(q2W (z3Z (x.p.L i).out)).size<=100:=z6b (by simp) (by simp)
  have h3:(z0t x i false f).size<=100:=by
   cases f
   ·exact b4
   ·exact h2
  omega
 have d7:=hC.lt;have e8:(i:Int)<2:=by omega
 have e9:(0:Int)<=(i:Int):=by omega
 have f4:IntKind.i64.wrap ((x.p.L i).out.g+1)=(x.p.L i).out.g+1:=z5z (by omega) (by omega)
 have a2:z0U P w (v.p.l i).said 1 16 (txC (x.p.L i).out.S):=(hI.p.lk i V).said;have b6:z0U P w (v.p.l i).due 1 8 (inC (x.p.L i).out.D):=(hI.p.lk i V).due;have C:=J6 (λ(a:World) (hb:Bl w a)=>(q1L x v V (x.p.L i).out (v.p.l i).said (v.p.l i).due).part (hC.over hb));have a3:=J6 (λ(a:World) (hb:Bl w a)=>q1E g (68+i*14+6) (x.p.L i).out (v.p.l i).said P a (a2.over hb) (z9g (C.out a hb)).1 (z9g (C.out a hb)).2 a9);have E:=J6 (λ(a:World)=>q1b (z3Z (x.p.L i).out) a (by omega))
 have b7:=J6 (λ(k a:World) (h4:Bl w k) (hb:Bl k a)=>q9R (x.p.L i).out ((x.p.L i).out.g+1) (z0t x i false f) (x.c i).h2 x.ck (v.p.l i).said (v.p.l i).due (λb=>P b/\b<k.heap.size) a ((((a2.over h4).mono (P':=λb=>P b/\b<k.heap.size) λb N hp=>⟨hp,N⟩).over hb)) ((((b6.over h4).mono (P':=λb=>P b/\b<k.heap.size) λb N hp=>⟨hp,N⟩).over hb)));have b8:=J6 (λ(a:World) (hb:Bl w a)=>(show(z3i (J2 (some ⟨g,68+i*14+6,none⟩))).run prog a=.ok (J4 #[(v.p.l i).said,(v.p.l i).due,.int .i64 (x.p.L i).out.g,J3 (x.p.L i).out.cl]) a/\a.cell? ⟨g,68+i*14+6+2,none⟩=some (.int .i64 (x.p.L i).out.g)/\a.cell? ⟨g,99+i*22+18+2,none⟩=some (.int .i64 (x.c i).h2)/\a.cell? ⟨g,0,none⟩=some (.int .i64 x.ck)from⟨z8j (C.out a hb) rfl,(z9g (C.out a hb)).2,(q0d (hC.over hb) V).2.1,(hC.over hb).cell 0⟩));have b9:=J6 (λ(a:World) (hb:Bl w a)=>q1K g x v P a i V false (z0t x i false f) (hC.over hb) (hI.over hb) hg b5 W a7);have c4:=J6 (q1D g i V w);have HC:=J6 hC;have HI:=J6 hI;clear hC hI a2 b6 C W a7 a0 a1 d5 a9 d6 b4 b5;generalize z7s x i false f=D at *;generalize z1B x i false (z0t x i false f)=rh at *;obtain⟨xh,he⟩:=rh;dsimp only at hD;generalize Ln.z4B (x.p.L i).out ((x.p.L i).out.g+1) (z0t x i false f) (x.c i).h2 x.ck=de at *;generalize Ln.z5L (x.p.L i).out ((x.p.L i).out.g+1) (z0t x i false f) (x.c i).h2 x.ck=dl at *
 have c5:Hid (f=false/\z0t x i false f=z3Z (x.p.L i).out∨f=true/\z0t x i false f=q2W (z3Z (x.p.L i).out)):=by
  cases f
  ·exact .inl ⟨rfl,rfl⟩
  ·exact .inr ⟨rfl,rfl⟩
 generalize z0t x i false f=tx at *;generalize z3Z (x.p.L i).out=nx at *;generalize Value.agg #[(v.p.l i).said,(v.p.l i).due,.int .i64 (x.p.L i).out.g,J3 (x.p.L i).out.cl]=V0 at *;generalize (x.p.L i).out.g=lg at *;generalize (x.c i).h2=sd at *;have HD:=J6 hD;have c6:=J6 a8;clear hD a8
 go_enter func63,ntmps63
 go_upto_region 2 with(go_at_call 84;refine c4.out.mono ?_;rintro e w1⟨rfl,a4⟩;obtain⟨w2,s2,K2,bS⟩:=q0K w1 (J2 (some ⟨g,68+i*14+6,none⟩)) (J2 (some ⟨g,68+i*14+10,none⟩)) (J2 (some ⟨g,99+i*22+18,none⟩)) (by simp[Value.oneCell']);have r:=J6 (show _/\_ from⟨K2,zbt a4 bS⟩);have d8:=a4.size;clear K2 bS a4)
 clear s2 c4;obtain⟨Q,c7⟩:∃y,y=w1.heap.size:=⟨_,rfl⟩;rw[<-c7]at r d8⊢;clear c7;have f5:g≠Q:=by omega
 have k0:w2.cell? ⟨Q,0,none⟩=some (J2 (some ⟨g,68+i*14+6,none⟩)):=r.out.1.cell 0;have f6:=r.out.1.lt
 rcases c5.out with⟨rfl,e0⟩|⟨rfl,e1⟩
 all_goals clear c5
 all_goals first|(subst e0;clear E)|(rw[<-e1]at E;clear e1)
 all_goals
  go_upto_region 5 with(first|(go_at_call 86;refine(E.out _).mono ?_;rintro e k⟨rfl,z⟩;have F:=J6 (zbt c8.out z);have H:=J6 (c9.out.over z);clear z)|(go_at_call 85;have _m:=E;refine(a3.out _ (by with_reducible exact r.out.2)).mono ?_;rintro e w3⟨rfl,s⟩;have c8:=J6 (zbt r.out.2 s);have c9:=J6 (r.out.1.over s);clear s)|(go_at_call 85;refine(a3.out _ (by with_reducible exact r.out.2)).mono ?_;rintro e k⟨rfl,z⟩;have F:=J6 (zbt r.out.2 z);have H:=J6 (r.out.1.over z);clear z))
  clear k0 r a3
  try clear c8 c9 E _m
  have f7:=F.out.size;have a5:=J6 (λ(a:World) (hb:Bl k a)=>b7.out k a F.out hb);have t:Hid (∀(a:World),Bl k a->a.cell? ⟨Q,0,none⟩=some (J2 (some ⟨g,68+i*14+6,none⟩))/\a.cell? ⟨Q,2,none⟩=some (J2 (some ⟨g,99+i*22+18,none⟩))/\(z3i (J2 (some ⟨g,68+i*14+6,none⟩))).run prog a=.ok V0 a/\a.cell? ⟨g,68+i*14+6+2,none⟩=some (.int .i64 lg)/\a.cell? ⟨g,99+i*22+18+2,none⟩=some (.int .i64 sd)/\a.cell? ⟨g,0,none⟩=some (.int .i64 x.ck)):=λa hb=>⟨(H.out.over hb).cell 0,(H.out.over hb).cell 2,b8.out a (zbt F.out hb)⟩;have B:Hid (Bl k (k.alloc (J5 Z4' 48)).drew):=(znw k _).drew;have X:Hid (CAt 48 (k.alloc (J5 Z4' 48)).drew k.heap.size Z4'):=CAt.new 48 k Z4';unfold Z4' at B;clear b7 b8;apply q1P (λ(gn:Nat) (ts:Array Value) w'=>j8I P k dl gn ts w')
  ·skip;refine wp_region_noPanic ?_;refine wp_region_held_drew (S:=λa=>Bl k a) (by kernel_rfl) (Below.refl _ _).drew (λn=>?_)
   refine O.G 0 (J2 (some ⟨Q,0,none⟩)) 26 rfl rfl n ?_;refine O.Z 1 (J2 (some ⟨g,68+i*14+6,none⟩)) 27 rfl rfl n (λa d=>by obtain⟨k0,k2,l3,l4,l5,l6⟩:=t.out a d;go_simp) ?_
   refine O.G 2 (J2 (some ⟨g,68+i*14+6,none⟩)) 28 rfl rfl n ?_;refine O.Z 3 V0 29 rfl rfl n (λa d=>by obtain⟨k0,k2,l3,l4,l5,l6⟩:=t.out a d;go_simp) ?_
   refine O.G 4 (J2 (some ⟨Q,0,none⟩)) 30 rfl rfl n ?_;refine O.Z 5 (J2 (some ⟨g,68+i*14+6,none⟩)) 31 rfl rfl n (λa d=>by obtain⟨k0,k2,l3,l4,l5,l6⟩:=t.out a d;go_simp) ?_
   refine O.G 6 (J2 (some ⟨g,68+i*14+6,none⟩)) 32 rfl rfl n ?_;refine O.G 7 (J2 (some ⟨g,68+i*14+6+2,none⟩)) 33 rfl rfl n ?_;refine O.Z 8 (.int .i64 lg) 34 rfl rfl n (λa d=>by obtain⟨k0,k2,l3,l4,l5,l6⟩:=t.out a d;go_simp) ?_
   refine O.G 9 (.int .i64 (lg+1)) 35 rfl rfl n ?_;refine O.G 10 (.string tx) 36 rfl rfl n ?_;refine O.G 11 (J2 (some ⟨Q,2,none⟩)) 37 rfl rfl n ?_;refine O.Z 12 (J2 (some ⟨g,99+i*22+18,none⟩)) 38 rfl rfl n (λa d=>by obtain⟨k0,k2,l3,l4,l5,l6⟩:=t.out a d;go_simp) ?_
   refine O.G 13 (J2 (some ⟨g,99+i*22+18,none⟩)) 39 rfl rfl n ?_;refine O.G 14 (J2 (some ⟨g,99+i*22+18+2,none⟩)) 40 rfl rfl n ?_;refine O.Z 15 (.int .i64 sd) 41 rfl rfl n (λa d=>by obtain⟨k0,k2,l3,l4,l5,l6⟩:=t.out a d;go_simp) ?_
   refine O.G 16 (J2 (some ⟨g,0,none⟩)) 42 rfl rfl n ?_;refine O.G 17 (J2 (some ⟨g,0,none⟩)) 43 rfl rfl n ?_;refine O.G 18 (J2 (some ⟨g,0,none⟩)) 44 rfl rfl n ?_;refine O.Z 19 (.int .i64 x.ck) 45 rfl rfl n (λa d=>by obtain⟨k0,k2,l3,l4,l5,l6⟩:=t.out a d;go_simp) ?_
   refine O.z4n (i:=20) (j:=24) (by kernel_rfl) rfl rfl rfl rfl (λK M=>?_) (λK M=>?_)
   ·go_simp
    go_at_call 87
    refine(a5.out _ (by with_reducible exact(Below.refl k.heap.size k).drew)).mono ?_
    rintro e w3⟨u1,u2,rfl,U1,U2,s⟩;skip;have hb:=(Below.refl k.heap.size k).drew.trans (s.mono (Below.refl k.heap.size k).drew.size);obtain⟨ts,A⟩:∃y:Array Value,y=#[u1,u2,.int .i64 dl.g,J3 dl.cl]:=⟨_,rfl⟩;dsimp only;rw[<-A];have R:=J6 A;clear A;refine M _ _ hb ?_;clear M K;refine O.Z 21 (.tuple #[J4 ts,(.int .i64 de)]) 25 rfl rfl hb (λa d=>?_) ?_
    ·go_simp
    refine O.Z 22 (J4 ts) 47 rfl rfl hb (λa d=>?_) ?_
    ·go_simp
    refine O.Z 23 (.int .i64 de) 48 rfl rfl hb (λa d=>?_) ?_
    ·go_simp
    refine O.z1k (i:=24) (by kernel_rfl) rfl rfl (λK M=>?_)
    go_simp;refine M _ _ (hb.alloc hb.size _) ?_;clear M K;have q2:ts.all (λx=>x.oneCell')=true:=by rw[R.out];exact z3r U1 U2 _ _
    have m:=z7v (l:=dl) U1 U2 (by rfl) hb
    rw[<-R.out]at m;change wpAnyH _ _ _ _ _ _ _ _ (w3.alloc (J5 Z4' 48));refine O.z0D (i:=25) (by kernel_rfl) rfl rfl 48 _ _ rfl rfl w3.heap.size 0 ts rfl rfl ((CAt.new 48 w3 Z4').there 0 _ (by rw[R.out];exact Nat.le_of_eq rfl)) (by rw[R.out,z4L];rfl) q2 m.bel ?_
    refine O.Z 26 (.int .i64 de) 13 rfl rfl m.bel (λa d=>?_) ?_
    ·go_simp
    refine wpAnyH_done (by kernel_rfl) ?_ _
    obtain⟨gn,T⟩:∃y,y=w3.heap.size:=⟨_,rfl⟩;rw[<-T]at m⊢;simp only[O.pp,O.pb,O.pc];exact NoPanic.normal ⟨gn,ts,rfl,rfl,m⟩
   ·go_simp;refine M _ _ (n.alloc n.size _) ?_;clear M K;refine O.z1k (i:=20) (by kernel_rfl) rfl rfl (λK M=>?_)
    go_simp
    go_at_call 87
    refine(a5.out _ (by with_reducible exact B.out)).mono ?_
    rintro e w3⟨u1,u2,rfl,U1,U2,s⟩;skip;have hb:=zbt B.out s;obtain⟨ts,A⟩:∃y:Array Value,y=#[u1,u2,.int .i64 dl.g,J3 dl.cl]:=⟨_,rfl⟩;dsimp only;rw[<-A];have R:=J6 A;clear A;refine M _ _ hb ?_;clear M K;refine O.Z 21 (.tuple #[J4 ts,(.int .i64 de)]) 25 rfl rfl hb (λa d=>?_) ?_
    ·go_simp
    refine O.Z 22 (J4 ts) 47 rfl rfl hb (λa d=>?_) ?_
    ·go_simp
    refine O.Z 23 (.int .i64 de) 48 rfl rfl hb (λa d=>?_) ?_
    ·go_simp
    have q2:ts.all (λx=>x.oneCell')=true:=by rw[R.out];exact z3r U1 U2 _ _
    have R3:=X.out.over s;have m:=z7z (l:=dl) U1 U2 (by simp) hb R3
    rw[<-R.out]at m;refine O.z0D (i:=25) (by kernel_rfl) rfl rfl 48 _ _ rfl rfl k.heap.size 0 ts rfl rfl (R3.there 0 _ (by rw[R.out];exact Nat.le_of_eq rfl)) (by rw[R.out,z4L];rfl) q2 m.bel ?_
    refine O.Z 26 (.int .i64 de) 13 rfl rfl m.bel (λa d=>?_) ?_
    ·go_simp
    refine wpAnyH_done (by kernel_rfl) ?_ _
    obtain⟨gn,T⟩:∃y,y=k.heap.size:=⟨_,rfl⟩;rw[<-T]at m⊢;simp only[O.pp,O.pb,O.pc];exact NoPanic.normal ⟨gn,ts,rfl,rfl,m⟩
  rintro gn ts w5 S5;have d0:=J6 S5;have f8:=S5.le;have e3:=S5.cat.lt;have u:=J6 (zbt F.out S5.bel);have d9:=J6 (H.out.over S5.bel);clear S5 t a5 B X H;have T:g≠gn:=by omega
  simp only[Exit.then];apply_assumption
  by_cases hE:de=0
  case neg =>
   replace HD:=J6 (HD.out.trans (if_neg hE));have f9:(de != 0)=true:=by simpa using hE
   go_wp2;go_ret2;rw[HD.out];exact⟨rfl,.same (HC.out.over u.out) HI.out hg (Alt.of u.out)⟩
  subst hE;replace HD:=J6 (HD.out.trans (if_pos rfl));have e2:=c6.out rfl;obtain⟨u1,u2,d1,d2,d3⟩:=d0.out.ex;have HU:=J6 (show _/\_/\_ from⟨d1,d2,d3⟩);clear d1 d2 d3 c6
  by_cases hH:he=0
  case neg =>
   replace HD:=J6 (HD.out.trans (if_neg hH));have g0:(he != 0)=true:=by simpa using hH
   go_wp2_with (go_at_call 88;refine(b9.out _ u.out).mono ?_;rintro e w6⟨rfl,Z6⟩;have U:=J6 Z6;clear Z6;dsimp only)
   go_ret2;rw[HD.out];obtain⟨v6,C6,I6,Y⟩:=U.out
   exact⟨rfl,v6,C6,I6.mono λb _ hb=>by
    rcases hb with⟨hb,N⟩|hb
    ·by_cases hw:b<w.heap.size
     ·exact .inl ⟨hb,hw⟩
     ·exact .inr (by omega)
    ·exact .inr (by have:=u.out.size;omega),(Alt.of (g:=g) u.out).trans Y⟩
  subst hH;replace HD:=J6 (HD.out.trans (if_pos rfl))
  go_upto_region 11 with(go_at_call 88;refine(b9.out _ u.out).mono ?_;rintro e w6⟨rfl,Z6⟩;have U:=J6 Z6;clear Z6;dsimp only)
  obtain⟨v6,C6,I6,Y⟩:=U.out
  have d4:WIn (New P w 0) w6 xh v6:=I6.mono λb _ hb=>by
   rcases hb with⟨hb,N⟩|hb
   ·by_cases hw:b<w.heap.size
    ·exact .inl ⟨hb,hw⟩
    ·exact .inr (by omega)
   ·exact .inr (by have:=u.out.size;omega)
  have a6:¬ New P w 0 g:=Pv.z0R hg d7
  have key:∀b,b<w5.heap.size->(New P k 0 b/\b≠gn)->New P w 0 b:=λb _ hb=>by
   rcases hb.1 with⟨hb,N⟩|hb
   ·by_cases hw:b<w.heap.size
    ·exact .inl ⟨hb,hw⟩
    ·exact .inr (by omega)
   ·exact .inr (by omega)
  have K6:=Y.cat (b:=Q) (by omega) d9.out
  have L6:=Y.cat (b:=gn) (by omega) d0.out.cat
  have y0:w6.cell? ⟨Q,0,none⟩=some (J2 (some ⟨g,68+i*14+6,none⟩)):=K6.cell 0;have R1:z0U (New P w 0) w6 u1 1 16 (txC dl.S):=(HU.out.2.1.mono key).keep λb hb N=>Y.block b N λe=>a6 (e ▸ hb);have R2:z0U (New P w 0) w6 u2 1 8 (inC dl.D):=(HU.out.2.2.mono key).keep λb hb N=>Y.block b N λe=>a6 (e ▸ hb)
  have l6:(z3i (J2 (some ⟨gn,0,none⟩))).run prog w6=.ok (J4 ts) w6:=by
   have h:=z8j L6.range (by rw[HU.out.1];rfl)
   simpa using h
  have s6:=q3t ((q1L xh v6 V dl u1 u2).there C6) rfl (by have h:=z3r R1 R2 dl.g dl.cl;simpa [lnL] using h)
  have Z7:=q7L d4 a6 C6 V R1 R2;change (z3Q (J2 (some ⟨g,68+i*14+6,none⟩)) (J4 #[u1,u2,.int .i64 dl.g,J3 dl.cl])).run prog w6=_ at s6;rw[<-HU.out.1]at s6;have L7:=L6.others (c:=g) (o:=68+i*14+6) (by omega) (lnL dl u1 u2)
  have HX:=J6 (z1h.trans ((Alt.of (g:=g) u.out).trans Y) Z7);rw[HU.out.1]at L7;generalize w6.setCells g (68+i*14+6) (lnL dl u1 u2)=w7 at *;have y7:w7.cell? ⟨gn,2,none⟩=some (.int .i64 (lg+1)):=by rw[<-e2];exact L7.cell 2
  have e4:=C6.lt;have e5:=K6.lt;have e6:=L6.lt;have e7:=L7.lt;clear C6 I6 d4 Y K6 L6 R1 R2 Z7 L7 U key;go_wp2;go_ret2;rw[HD.out];exact⟨rfl,HX.out⟩
end Wd
end Go.Proofs.YtddlhnoedldidaaGreat
