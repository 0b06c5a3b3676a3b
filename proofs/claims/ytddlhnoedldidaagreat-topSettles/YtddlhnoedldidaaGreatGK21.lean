/- Parts of the proof. -/
import Derived.Test.YtddlhnoedldidaaGreatGL
import Derived.Test.YtddlhnoedldidaaGreatGK25
import Derived.Test.YtddlhnoedldidaaGreatGK29
set_option maxRecDepth 100000
set_option maxHeartbeats 16000000
namespace Go.Proofs.YtddlhnoedldidaaGreat
open Go.Proofs.Tryz
open Value renaming int->J,slice->J1,pointer->J2,bool->J3,agg->J4
open IntKind renaming i64->I
open Obj renaming cells->J5
namespace Pv
open Go.RowKit Wd
theorem j0c:(prog.info? 52).map (·.size)=some 14:=by kernel_rfl
def q3a(a v:Value):Sem Unit:=Instr.storeAt 52 a v
theorem z9x(a v:Value):Instr.storeAt 52 a v=q3a a v:=rfl
def z6l(h:Int)(set:List (Int×Int))(f:Bool):Lk:=⟨true,false,h,set,f,[],⟨[],[],0,false⟩,0,0,0,0⟩
def q3S(u:Value):LkV:=⟨u,J1 none 0 0,J1 none 0 0,J1 none 0 0⟩
theorem j1O(p:Pr)(v:PrV)(k:Nat)(b:k<2)(y:Lk)(u:LkV)(f:Bool):(prC { p with L:=z0P p.L k y} (v.upd k u)).setIfInBounds (66+k*14+4) (J3 f)=prC { p with L:=z0P p.L k { y with fresh:=f}} (v.upd k u):=by
 obtain⟨a,c,d,h1,h2⟩:=z6s p v k b;rw[h2,h2,set_mid _ _ _ _ 4 _ d (by simp[lkL])]
 rfl
attribute [local go_sem ↓] z1P z0T z0F z1H z9x
theorem q5H(p:Pr)(v:PrV)(P:Nat->Prop)(w:World)(c:Int)(hp:PIn P w p v) :
  Calls prog 59 #[J4 (prC p v),.int .i64 c] w (j4r P w (z0x p c)):=by
 have hD:z0x p c=if z0o p=true then(if isC c=true then(if(p.L c.toNat).gone=true then(p,11)else if(p.L c.toNat).on=true then(p,5)else if p.h=0∨p.set.length=0 then(p,13)else({ p with s:={ p.s with W:=p.s.W.map (z0V c.toNat (p.h+1))},L:=z0P p.L c.toNat (z6M p)},0))else(p,4))else(p,2):=by unfold z0x;rfl
 generalize z0x p c=D at *;have HD:=J6 hD;clear hD;have A:=z1m hp;have X:=J6 (λ(u:World) (hb:Bl w u)=>z3A p v P u (hp.over hb));have R:=J6 (λ(u:World) (hb:Bl w u)=>hp.z2X hb 2);have HP:=J6 hp
 have HG:Hid (z0o p=true->0<=p.h/\p.h<=1099511627776):=λh=>by
  unfold z0o at h;simp only[Bool.and_eq_true,decide_eq_true_eq]at h;omega
 clear hp;generalize z0o p=G at *
 go_enter func59,ntmps59
 go_upto_region 1 with fail
 change Code.wp prog _ _ _ ((w.alloc (J5 (prC p v) 58)).alloc (J5 zeroCells58 58));have C0:CAt 58 ((w.alloc (J5 (prC p v) 58)).alloc (J5 zeroCells58 58)) w.heap.size (prC p v):=(CAt.new _ w _).alloc _;have R0:CAt 58 ((w.alloc (J5 (prC p v) 58)).alloc (J5 zeroCells58 58)) (w.heap.size+1) zeroCells58:=CAt.new2 _ w _ _;have B0:Bl w ((w.alloc (J5 (prC p v) 58)).alloc (J5 zeroCells58 58)):=(znw w _).alloc (by simp) _
 generalize (w.alloc (J5 (prC p v) 58)).alloc (J5 zeroCells58 58)=w0 at *;have l0:=z0l C0 (z0a _ _);have B:=J6 (show _/\_/\_ from⟨C0,R0,B0⟩);clear C0 R0 B0;cases G
 ·replace HD:=J6 (HD.out.trans (if_neg (by simp)))
  go_wp2_with (go_at_call 67;refine(X.out _ B.out.2.2).mono ?_;rintro e w1⟨rfl,a⟩;clear l0;have l1:=z0l (B.out.1.over a) (z0a _ _);have s1:=z0m (B.out.2.1.over a) z0e (z0a p v) A)
  exact z0W results59 (B.out.2.1.over a) z0e (zbt B.out.2.2 a) p v 2 D HD.out (R.out _ (zbt B.out.2.2 a)) _ rfl rfl rfl
 replace HD:=J6 (HD.out.trans (if_pos rfl));obtain⟨g0,g1⟩:=HG.out rfl;clear HG
 go_upto_region 3 with(go_at_call 67;refine(X.out _ B.out.2.2).mono ?_;rintro e w1⟨rfl,a⟩;clear l0)
 have C:=B.out.1.over a;have R1:=B.out.2.1.over a;have B1:=zbt B.out.2.2 a;have l1:=z0l C (z0a _ _);have s1:=z0m R1 z0e (z0a p v) A;have b4:=R1.lt;have d:=J6 (show _/\_/\_ from⟨R1,B1,C⟩);clear R1 B1 a A B X
 by_cases r:isC c=true
 case neg =>
  replace HD:=J6 (HD.out.trans (if_neg r));have T:isC c=false:=by simpa using r
  have t:=J6 T;clear r T C
  go_wp2_with (go_at_call 81;refine(z3h _ _).mono ?_;rintro e w'⟨rfl,rfl⟩;simp only[t.out])
  exact z0W results59 d.out.1 z0e d.out.2.1 p v 4 D HD.out (R.out _ d.out.2.1) _ rfl rfl rfl
 replace HD:=J6 (HD.out.trans (if_pos r));have t:=J6 r;obtain⟨k,rfl,hk⟩:=z9F r;rw[Int.toNat_natCast]at HD;clear r;have b5:(k:Int)<2:=by omega
 have b6:(0:Int)<=(k:Int):=by omega
 obtain⟨c0,c1,-⟩:=(C.lk hk).facts
 by_cases E:(p.L k).gone=true
 ·rw[E]at c1;replace HD:=J6 (HD.out.trans (if_pos E));clear C
  go_wp2_with (go_at_call 81;refine(z3h _ _).mono ?_;rintro e w'⟨rfl,rfl⟩;simp only[t.out])
  exact z0W results59 d.out.1 z0e d.out.2.1 p v 11 D HD.out (R.out _ d.out.2.1) _ rfl rfl rfl
 replace HD:=J6 (HD.out.trans (if_neg E));have U:(p.L k).gone=false:=by simpa using E
 rw[U]at c1;clear E U
 by_cases F:(p.L k).on=true
 ·rw[F]at c0;replace HD:=J6 (HD.out.trans (if_pos F));clear C
  go_wp2_with (go_at_call 81;refine(z3h _ _).mono ?_;rintro e w'⟨rfl,rfl⟩;simp only[t.out])
  exact z0W results59 d.out.1 z0e d.out.2.1 p v 5 D HD.out (R.out _ d.out.2.1) _ rfl rfl rfl
 replace HD:=J6 (HD.out.trans (if_neg F));have V:(p.L k).on=false:=by simpa using F
 rw[V]at c0;clear F V;obtain⟨H,M,e6,b7,-⟩:=HP.out.set.open (z0c p.set) (by decide)
 have a0:w1.cell? ⟨w.heap.size,0,none⟩=some (.int .i64 p.h):=C.cell 0;have Y:w1.cell? ⟨w.heap.size,65,none⟩=some (J1 H p.set.length M):=by rw[<-e6];exact C.cell 65
 have a1:=J6 e6;clear e6
 by_cases h0:p.h=0
 ·replace HD:=J6 (HD.out.trans (if_pos (.inl h0)));rw[h0]at a0;clear C
  go_wp2_with (go_at_call 81;refine(z3h _ _).mono ?_;rintro e w'⟨rfl,rfl⟩;simp only[t.out])
  exact z0W results59 d.out.1 z0e d.out.2.1 p v 13 D HD.out (R.out _ d.out.2.1) _ rfl rfl rfl
 by_cases hn:p.set.length=0
 ·replace HD:=J6 (HD.out.trans (if_pos (.inr hn)));rw[hn]at Y;clear C
  go_wp2_with (go_at_call 81;refine(z3h _ _).mono ?_;rintro e w'⟨rfl,rfl⟩;simp only[t.out])
  exact z0W results59 d.out.1 z0e d.out.2.1 p v 13 D HD.out (R.out _ d.out.2.1) _ rfl rfl rfl
 replace HD:=J6 (HD.out.trans (if_neg (λh=>by rcases h with h|h;exact h0 h;exact hn h)))
 have a7:¬((p.set.length:Int)=0):=by omega
 have a:(p.h == 0)=false:=by simpa using h0
 have b8:((p.set.length:Int) == 0)=false:=by simpa using a7
 have z:=(Below.refl w1.heap.size w1).drew;have a2:=J6 (z6P p.set (J1 H p.set.length M) P w1.drew (by rw[<-a1.out];exact HP.out.set.over (zbt d.out.2.1 z)))
 have HS:w1.drew.cell? ⟨w.heap.size,0,none⟩=some (.int .i64 p.h)/\w1.drew.cell? ⟨w.heap.size,65,none⟩=some (J1 H p.set.length M):=⟨a0,Y⟩;clear C z
 go_upto_region 12 with(go_at_call 81;refine(z3h _ _).mono ?_;rintro e w'⟨rfl,rfl⟩;simp only[t.out])
 refine wp_region_held_drew (S:=λu=>u.cell? ⟨w.heap.size,0,none⟩=some (.int .i64 p.h)/\u.cell? ⟨w.heap.size,65,none⟩=some (J1 H p.set.length M)) (by kernel_rfl) HS (λN=>?_)
 refine O.Z 0 (J2 (some ⟨w.heap.size,66+k*14,none⟩)) 38 rfl rfl N (λu n=>?_) ?_
 ·go_simp
 refine O.Z 1 (J2 (some ⟨w.heap.size,0,none⟩)) 39 rfl rfl N (λu n=>?_) ?_
 ·go_simp
 refine O.Z 2 (.int .i64 p.h) 40 rfl rfl N (λu n=>?_) ?_
 ·have l:=n.1;go_simp
 refine O.Z 3 (J2 (some ⟨w.heap.size,65,none⟩)) 41 rfl rfl N (λu n=>?_) ?_
 ·go_simp
 refine O.Z 4 (J1 H p.set.length M) 42 rfl rfl N (λu n=>?_) ?_
 ·have l:=n.2;go_simp
 refine wpAnyH_ready (rs:=[5]) (by kernel_rfl) (by simp) ?_
 refine AllReadyH.cons rfl (λK hK=>?_) AllReadyH.nil;go_simp;refine a2.out.mono ?_;rintro e w3⟨u3,rfl,U3,a3⟩;obtain⟨f,j,m,rfl⟩:=U3.one';have b3:=(Below.refl w1.heap.size w1).drew.trans a3;dsimp only;refine hK.out _ _ ⟨(d.out.2.2.over b3).cell 0,((d.out.2.2.over b3).cell 65).trans (congrArg some a1.out)⟩ (λN=>?_);clear hK K;refine O.Z 6 (J4 #[J3 true,J3 false,.int .i64 p.h,J1 f j m,J3 false,J1 none 0 0,J1 none 0 0,J1 none 0 0,.int .i64 0,J3 false,.int .i64 0,.int .i64 0,.int .i64 0,.int .i64 0]) 44 rfl rfl N (λu n=>?_) ?_
 ·go_simp
 refine O.Z 7 (J2 (some ⟨w.heap.size,66+k*14,none⟩)) 45 rfl rfl N (λu n=>?_) ?_
 ·go_simp
 have q1:(Option.map (λx=>x.size) (prog.info? 52))=some (#[J3 true,J3 false,.int .i64 p.h,J1 f j m,J3 false,J1 none 0 0,J1 none 0 0,J1 none 0 0,.int .i64 0,J3 false,.int .i64 0,.int .i64 0,.int .i64 0,.int .i64 0]:Array Value).size:=by rw[j0c];rfl
 have q2:(#[J3 true,J3 false,.int .i64 p.h,J1 f j m,J3 false,J1 none 0 0,J1 none 0 0,J1 none 0 0,.int .i64 0,J3 false,.int .i64 0,.int .i64 0,.int .i64 0,.int .i64 0]:Array Value).all (λx=>x.oneCell')=true:=by simp[Value.oneCell']
 have q3:w3.there w.heap.size (66+k*14) (#[J3 true,J3 false,.int .i64 p.h,J1 f j m,J3 false,J1 none 0 0,J1 none 0 0,J1 none 0 0,.int .i64 0,J3 false,.int .i64 0,.int .i64 0,.int .i64 0,.int .i64 0]:Array Value).size:=(q8z p v hk (z6l p.h p.set false) (q3S (J1 f j m))).there (d.out.2.2.over b3);have C4:=(q8z p v hk (z6l p.h p.set false) (q3S (J1 f j m))).sets (d.out.2.2.over b3);have qS:(w3.setCells w.heap.size (66+k*14) (lkL (z6l p.h p.set false) (q3S (J1 f j m)))).cell? ⟨w.heap.size,0,none⟩=some (.int .i64 p.h)/\(w3.setCells w.heap.size (66+k*14) (lkL (z6l p.h p.set false) (q3S (J1 f j m)))).cell? ⟨w.heap.size,65,none⟩=some (J1 H p.set.length M):=⟨C4.cell 0,(C4.cell 65).trans (congrArg some a1.out)⟩;refine O.z0D (i:=8) (by kernel_rfl) rfl rfl 52 _ _ rfl rfl w.heap.size (66+k*14) #[J3 true,J3 false,.int .i64 p.h,J1 f j m,J3 false,J1 none 0 0,J1 none 0 0,J1 none 0 0,.int .i64 0,J3 false,.int .i64 0,.int .i64 0,.int .i64 0,.int .i64 0] rfl rfl q3 q1 q2 qS ?_
 refine wpAnyH_done (by kernel_rfl) ?_ _
 have R4:=(d.out.1.over b3).others (c:=w.heap.size) (o:=66+k*14) (by omega) (lkL (z6l p.h p.set false) (q3S (J1 f j m)))
 have B3:=zbt d.out.2.1 b3;have B4:=z0b (b:=w.heap.size) (Nat.le_refl _) (lkL (z6l p.h p.set false) (q3S (J1 f j m))) (66+k*14) _ B3;have z:w1.drew.heap.size=w1.heap.size:=rfl;have U4:=U3.sets (g:=w.heap.size) (λh=>by rw[z]at h;omega) (66+k*14) (lkL (z6l p.h p.set false) (q3S (J1 f j m)))
 change Exit.then _ _ _ _ (w3.setCells w.heap.size (66+k*14) (lkL (z6l p.h p.set false) (q3S (J1 f j m))));clear q1 q2 q3 qS HS N a3 U3 l1 s1 c0 c1 a0 Y a2;generalize w3.setCells w.heap.size (66+k*14) (lkL (z6l p.h p.set false) (q3S (J1 f j m)))=w4 at *;have HH:=J6 (q8p w.heap.size { p with L:=z0P p.L k (z6l p.h p.set false)} (v.upd k (q3S (J1 f j m))) (New P w 2) w4 k hk C4 (R.out _ B4).ws g0 g1)
 have b9:=R4.lt;have a9:=b3.size;have H4:=J6 (show _/\_/\_/\_ from⟨C4,R4,B4,U4⟩);clear C4 R4 B4 U4 B3;obtain⟨TL,a4⟩:∃y:Value,y=J4 #[J3 true,J3 false,.int .i64 p.h,J1 f j m,J3 false,J1 none 0 0,J1 none 0 0,J1 none 0 0,.int .i64 0,J3 false,.int .i64 0,.int .i64 0,.int .i64 0,.int .i64 0]:=⟨_,rfl⟩;rw[<-a4];clear a4;generalize a5:p.s.W.any (λx=>decide (x.hei=p.h+1))=AB at *;go_simp
 go_upto_region 14 with(go_at_call 82;refine HH.out.mono ?_;rintro e w5⟨u5,rfl,C5,U5,A5⟩;have f5:=C5.free (66+k*14+4);have y5:=(C5.lk hk).facts.2.2.2.2.1;have a8:=C5.lt)
 have M:CAt 58 (w5.setCell ⟨w.heap.size,66+k*14+4,none⟩ (J3 AB)) w.heap.size (prC { p with s:={ p.s with W:=p.s.W.map (z0V k (p.h+1))},L:=z0P p.L k { z6l p.h p.set false with fresh:=AB}} (PrV.upd { v with ws:=u5} k (q3S (J1 f j m)))):=by
  have h:=C5.set (66+k*14+4) (J3 AB);exact Eq.mp (congrArg (CAt 58 (w5.setCell ⟨w.heap.size,66+k*14+4,none⟩ (J3 AB)) w.heap.size) (j1O { p with s:={ p.s with W:=p.s.W.map (z0V k (p.h+1))}} { v with ws:=u5} k hk (z6l p.h p.set false) (q3S (J1 f j m)) AB)) h
 have H:Alt w.heap.size w4 (w5.setCell ⟨w.heap.size,66+k*14+4,none⟩ (J3 AB)):=A5.set _ _;have R6:=H.cat (b:=w.heap.size+1) (by omega) H4.out.2.1
 have B6:=H4.out.2.2.1.trans (H.below (Nat.le_refl _) H4.out.2.2.1.size);have n6:=R.out _ B6;have c4:=H4.out.2.2.1.size
 have N6:PIn (New P w 2) (w5.setCell ⟨w.heap.size,66+k*14+4,none⟩ (J3 AB)) { p with s:={ p.s with W:=p.s.W.map (z0V k (p.h+1))},L:=z0P p.L k { z6l p.h p.set false with fresh:=AB}} (PrV.upd { v with ws:=u5} k (q3S (J1 f j m))):=by
  refine⟨?_,n6.set,λc hc=>?_,n6.q⟩
  ·have h5:=((Alt.refl w.heap.size w5).set (66+k*14+4) (J3 AB)).rep (P:=λb=>w4.heap.size<=b) (λh=>by omega) U5
   exact h5.mono λb _ hb=>.inr (by have:w4.heap.size<=b:=hb;omega)
  ·show z5M _ _ (z0P p.L k { z6l p.h p.set false with fresh:=AB} c) (if c=k then q3S (J1 f j m)else v.l c)
   unfold z0P
   by_cases Q:c=k
   ·rw[if_pos Q,if_pos Q];refine⟨?_,Rep.nil _ _ _ _,z0U.nil _ _ _ _,z0U.nil _ _ _ _⟩;have h4:=H.rep (P:=λb=>w1.drew.heap.size<=b) (λh=>by rw[z]at h;omega) H4.out.2.2.2
    exact h4.mono λb _ hb=>.inr (by have h:w1.drew.heap.size<=b:=hb;rw[z]at h;omega)
   ·rw[if_neg Q,if_neg Q];exact n6.lk c hc
 obtain⟨p6,v6,a6,K6,M6⟩:∃p6 v6,D=(p6,0)/\CAt 58 (w5.setCell ⟨w.heap.size,66+k*14+4,none⟩ (J3 AB)) w.heap.size (prC p6 v6)/\PIn (New P w 2) (w5.setCell ⟨w.heap.size,66+k*14+4,none⟩ (J3 AB)) p6 v6:=⟨_,_,by rw[HD.out,<-a5];rfl,M,N6⟩
 have l6:=z0l K6 (z0a _ _);have s6:=z0m R6 z0e (z0a p6 v6) (z1m M6);have HY:=J6 (show _/\_/\_/\_ from⟨R6,B6,M6,a6⟩);clear M K6 R6 B6 H N6 M6 n6 C5 U5 A5 H4 HH f5 y5 a8 HD a6 a5;generalize w5.setCell ⟨w.heap.size,66+k*14+4,none⟩ (J3 AB)=w6 at *;go_wp2;exact z0W results59 HY.out.1 z0e HY.out.2.1 p6 v6 0 D HY.out.2.2.2 HY.out.2.2.1 _ rfl rfl rfl
end Pv
namespace Wd
open Go.RowKit Pv Kc
theorem y0F{P:Nat->Prop}{a:World}{r:Pr}{v2:PrV}(d:PIn P a r v2):∃c,(z7f (J2 (some ⟨a.heap.size,0,none⟩)) (J4 (prC r v2))).run prog (a.alloc (J5 zeroCells58 58))=.ok () c/\CAt 58 c a.heap.size (prC r v2)/\PIn (λb=>P b/\b<a.heap.size) c r v2/\Bl a c:=by
 have R0:=CAt.new 58 a zeroCells58;have e:Bl a ((a.alloc (J5 zeroCells58 58)).setCells a.heap.size 0 (prC r v2).toList):=z0b (Nat.le_refl _) _ _ _ (znw a _);exact⟨_,z0m R0 z0e (z0a _ _) (z1m d),R0.z0L (by rw[z0e];rfl),(d.mono (P':=λb=>P b/\b<a.heap.size) λ_ f hp=>⟨hp,f⟩).over e,e⟩
theorem j8h{P:Nat->Prop}{w:World}{g:Nat}{x:Wo}{v:WoV}(d:WIn P w x v)(e:¬ P g)(C0:CAt 97 w g (wdC x v)){a:Wo}{o:Nat}{ds es:List Value}(f:At (wdC x v) o ds es (wdC a v))(hp:a.p=x.p)(hc:a.c=x.c):z1h P w g a (w.setCells g o es):=by
 have b:Alt g w (w.setCells g o es):=(Alt.refl g w).sets _ _;have h:=d.new e b 0;exact⟨v,f.sets C0,⟨by rw[hp];exact h.p,λi j=>by rw[hc];exact h.c i j⟩,b⟩
attribute [local go_sem ↓] z0T z0F z2f z1J q5E
theorem q5I(g:Nat)(x:Wo)(v:WoV)(P:Nat->Prop)(w:World)(c:Int)(T:CAt 97 w g (wdC x v))(hI:WIn P w x v)(A:¬ P g) :
  Calls prog 36 #[J2 (some ⟨g,0,none⟩),.int .i64 c] w (q0Q P w g (z1X x c)):=by
 have hD:z1X x c=if isC c=true then(if(z0x x.p c).2=0 then({ x with p:=(z0x x.p c).1,c:=z2k x.c c.toNat (z2s (z0x x.p c).1.set (z0x x.p c).1.h x.ck),hp:=q7g x.hp c.toNat hd0,hc:=q7g x.hc c.toNat hd0},(z0x x.p c).1.h,0)else(x,0,(z0x x.p c).2))else(x,0,4):=by unfold z1X;rfl
 have B:=J6 (q5H x.p v.p P w c hI.p);generalize z1X x c=D at *;generalize z0x x.p c=r at *;obtain⟨rp,re⟩:=r;dsimp only at hD;have HD:=J6 hD;have m:=J6 (λ(d:World)=>z3z c d);clear hD;have C:=T.lt;have m0:=j2x ((z8T x v x.p v.p).part T) (z0a _ _);have U:=J6 T;have HI:=J6 hI;clear T hI
 go_enter func36,ntmps36
 by_cases f:isC c=true
 case neg =>
  replace HD:=J6 (HD.out.trans (if_neg f));have E:isC c=false:=by simpa using f
  rw[E]at m
  go_wp2_with (go_at_call 26;refine(m.out _).mono ?_;rintro e w'⟨rfl,rfl⟩)
  go_ret2;rw[HD.out];exact⟨rfl,.same U.out HI.out A (Alt.refl _ _)⟩
 replace HD:=J6 (HD.out.trans (if_pos f));obtain⟨i,rfl,V⟩:=z9F f;rw[f]at m;rw[Int.toNat_natCast]at HD;clear f;have a4:(i:Int)<2:=by omega
 have a5:(0:Int)<=(i:Int):=by omega
 go_upto_region 4 with(first
  | (go_at_call 26;refine(m.out _).mono ?_;rintro e w'⟨rfl,rfl⟩)
  | (go_at_call 59;refine B.out.mono ?_;rintro e w2⟨u2,rfl,U2,t⟩;dsimp only at U2;dsimp only;clear m0;obtain⟨w3,s2,D3,Q3,bS⟩:=y0F U2;have a:=J6 (show _/\_/\_ from⟨D3,Q3,zbt t bS⟩);have a0:=t.size;clear D3 Q3 bS t U2))
 clear s2 B;obtain⟨gn,u⟩:∃y,y=w2.heap.size:=⟨_,rfl⟩;rw[<-u]at a a0⊢;have a6:g≠gn:=by omega
 have a7:=J6 u;clear u;generalize Value.agg (prC x.p v.p)=V0
 by_cases hE:re=0
 case neg =>
  replace HD:=J6 (HD.out.trans (if_neg hE));have a8:(re != 0)=true:=by simpa using hE
  generalize Value.agg (prC rp u2)=V2;go_wp2;go_ret2;rw[HD.out];exact⟨rfl,.same (U.out.over a.out.2.2) HI.out A (Alt.of a.out.2.2)⟩
 subst hE;replace HD:=J6 (HD.out.trans (if_pos rfl));have F:=z1m a.out.2.1;have l3:=z0l a.out.1 (z0a _ _);have s3:=j9b ((z8T x v rp u2).there (U.out.over a.out.2.2)) (z0a _ _) F;have hw:New P w 2=New P w 2:=rfl;have G:=J6 (q1S HI.out A (Below.refl _ w) U.out C a.out.2.2 (a.out.2.1.mono (P':=New P w 2) λb _ hb=>hb.1));have H:=a.out.2.1.sets (g:=g) (λh=>by rcases h.1 with⟨h,_⟩|h;exact A h;omega) 2 (prC rp u2).toList
 have n:=a.out.1.others (c:=g) (o:=2) (by omega) (prC rp u2).toList
 have q:=J6 (show _/\_/\_ from⟨G.out,H,n⟩);clear H n hw G F;generalize a1:Value.agg (prC rp u2)=V2 at l3 s3⊢;clear a1;generalize w3.setCells g 2 (prC rp u2).toList=w4 at *
 go_upto_region 7 with fail
 clear l3 s3;obtain⟨⟨v4,W,I4,A4⟩,H,n⟩:=q.out;clear q;have k:=(Below.refl w4.heap.size w4).drew;have Z:w4.drew.cell? ⟨gn,65,none⟩=some u2.set/\w4.drew.cell? ⟨gn,0,none⟩=some (.int .i64 rp.h)/\w4.drew.cell? ⟨g,0,none⟩=some (.int .i64 x.ck):=⟨(n.over k).cell 65,(n.over k).cell 0,(W.over k).cell 0⟩;have L:=J6 (q6A rp.set u2.set rp.h x.ck (λb=>New P w 2 b/\b<gn) w4.drew (H.set.over k));have s:=W.lt;have a2:=n.lt;have M:¬ New P w 0 g:=Pv.z0R A C;have q:=J6 (show _/\_/\_/\_ from⟨W,I4,A4,n⟩);clear W I4 A4 n H k;refine O.z1r (c:=10) (S:=λd=>d=w4.drew) (by kernel_rfl) ?_
 have j:w4.drew=w4.drew:=rfl;refine O.z0z (i:=0) (v:=(J2 (some ⟨g,0,none⟩))) (some 27) rfl rfl (by kernel_rfl) (by kernel_rfl) (by kernel_rfl) (by decide) (λ_ _ _ h=>h) (Or.inl ⟨by rfl,?_⟩) j ?_
 ·intro d;go_simp
 refine O.z0z (i:=1) (v:=(.int .i64 (i:Int))) (some 28) rfl rfl (by kernel_rfl) (by kernel_rfl) (by kernel_rfl) (by decide) (λ_ _ _ h=>h) (Or.inl ⟨by rfl,?_⟩) j ?_
 ·intro d;go_simp
 refine O.z0z (i:=11) (v:=(J2 (some ⟨g,0,none⟩))) (some 38) rfl rfl (by kernel_rfl) (by kernel_rfl) (by kernel_rfl) (by decide) (λ_ _ _ h=>h) (Or.inl ⟨by rfl,?_⟩) j ?_
 ·intro d;go_simp
 refine O.z0z (i:=12) (v:=(J2 (some ⟨g,99,none⟩))) (some 39) rfl rfl (by kernel_rfl) (by kernel_rfl) (by kernel_rfl) (by decide) (λ_ _ _ h=>h) (Or.inl ⟨by rfl,?_⟩) j ?_
 ·intro d;go_simp
 refine O.Y 2 (J2 (some ⟨gn,65,none⟩)) 29 rfl rfl j ?_ ?_
 ·rintro d rfl;go_simp
 refine O.Y 3 u2.set 30 rfl rfl j ?_ ?_
 ·rintro d rfl;have l:=Z.1;go_simp
 refine O.Y 4 (J2 (some ⟨gn,0,none⟩)) 31 rfl rfl j ?_ ?_
 ·rintro d rfl;go_simp
 refine O.Y 5 (.int .i64 rp.h) 32 rfl rfl j ?_ ?_
 ·rintro d rfl;have l:=Z.2.1;go_simp
 refine O.Y 6 (J2 (some ⟨g,0,none⟩)) 33 rfl rfl j ?_ ?_
 ·rintro d rfl;go_simp
 refine O.Y 7 (J2 (some ⟨g,0,none⟩)) 34 rfl rfl j ?_ ?_
 ·rintro d rfl;go_simp
 refine O.Y 8 (J2 (some ⟨g,0,none⟩)) 35 rfl rfl j ?_ ?_
 ·rintro d rfl;go_simp
 refine O.Y 9 (.int .i64 x.ck) 36 rfl rfl j ?_ ?_
 ·rintro d rfl;have l:=Z.2.2;go_simp
 refine O.z2t (by kernel_rfl) rfl (λK hK=>?_)
 refine z0H rfl ?_;go_simp;refine L.out.mono ?_;rintro e w5⟨u5,rfl,U5,N⟩;dsimp only;have b5:=(Below.refl w4.heap.size w4).drew.trans N;obtain⟨ts,z⟩:∃y,y=csC (z2s rp.set rp.h x.ck) u5:=⟨_,rfl⟩;rw[<-z];have HT:=J6 z;clear z;refine hK _ _ ?_;clear hK K;refine O.X 13 (J2 (some ⟨g,99+i*22,none⟩)) 40 rfl rfl ?_ ?_
 ·intro d;go_simp
 have q1:(Option.map (λx=>x.size) (prog.info? 75))=some ts.size:=by rw[HT.out,z3K];rfl
 have q2:ts.all (λx=>x.oneCell')=true:=by rw[HT.out];exact z2p U5
 have q3:w5.there g (99+i*22) ts.size:=by rw[HT.out];exact by simpa using(q1x { x with p:=rp} v4 V (z2s rp.set rp.h x.ck) u5).there (q.out.1.over b5)
 refine O.z2q (i:=14) (by kernel_rfl) rfl rfl 75 _ _ rfl rfl g (99+i*22) ts rfl rfl q3 q1 q2 ?_
 refine wpAny_done (by kernel_rfl) ?_ _
 have Q:CIn (New (New P w 0) w4 0) w5 (z2s rp.set rp.h x.ck) u5:=U5.mono λb _ hb=>by
  rcases hb with⟨hb,hl⟩|hb
  ·rcases hb.1 with h|h
   ·exact .inl ⟨.inl h,hl⟩
   ·exact .inl ⟨.inr (by omega),hl⟩
  ·exact .inr (by have:w4.drew.heap.size=w4.heap.size:=rfl;omega)
 have HZ:=J6 (q3d q.out.2.1 M (Below.refl _ w4) q.out.1 s b5 V Q);have D6:=(q.out.2.2.2.over b5).others (c:=g) (o:=99+i*22) (by omega) ts.toList
 rw[<-HT.out]at HZ;generalize w5.setCells g (99+i*22) ts.toList=w6 at *;clear q1 q2 q3 Z j U5 Q N L;obtain⟨v6,C6,I6,A6⟩:=HZ.out;have R:¬ New (New P w 0) w4 0 g:=Pv.z0R M s;have s8:=y2A ((y2R { x with p:=rp,c:=z2k x.c i (z2s rp.set rp.h x.ck)} v6 V hd0 hd0).there C6) rfl (by rfl)
 have Z7:=j8h I6 R C6 (y2R { x with p:=rp,c:=z2k x.c i (z2s rp.set rp.h x.ck)} v6 V hd0 hd0) rfl rfl
 have D7:=D6.others (c:=g) (o:=143+i*8) (by omega) (hdL hd0++hdL hd0)
 change (q3o (J2 (some ⟨g,143+i*8,none⟩)) (J4 #[.int .i64 0,.int .i64 0,.int .i64 0,.int .i64 0,.int .i64 0,.int .i64 0,.int .i64 0,.int .i64 0])).run prog w6=_ at s8;have a3:=C6.lt;have HX:=J6 (z1h.trans q.out.2.2.1 (z1h.trans A6 Z7));generalize w6.setCells g (143+i*8) (hdL hd0++hdL hd0)=w7 at *;have y7:w7.cell? ⟨gn,0,none⟩=some (.int .i64 rp.h):=D7.cell 0;have a9:=D7.lt;clear C6 I6 A6 Z7 D6 D7 HZ;go_simp;go_wp2;go_ret2;rw[HD.out];exact⟨rfl,HX.out⟩
end Wd
namespace Kc
open Go.RowKit Pv
theorem q1B:∀(l:List Int) (last:Int),Cd.z0i last l=true->∀u∈l,0<=u/\u<6
 | [],_,_,u,hu=>by simp at hu
 | x :: l,last,h,u,hu=>by
  unfold Cd.z0i Cd.isV at h;simp only[Bool.and_eq_true,decide_eq_true_eq]at h
  rcases List.mem_cons.1 hu with rfl|hu
  ·exact h.1.2
  ·exact q1B l x h.2 u hu
theorem z5x:∀(l:List Pkt) (c:Cs),(l.foldl takeC c).pd=c.pd/\(l.foldl takeC c).t=c.t/\(l.foldl takeC c).rp.length=c.rp.length+l.length
 | [],c=>⟨rfl,rfl,rfl⟩
 | x :: l,c=>by
  have:=z5x l (takeC c x);rw[List.foldl_cons];refine⟨this.1,this.2.1,?_⟩;rw[this.2.2,List.length_cons]
  show(c.rp++[_]).length+_=_
  simp
  omega
theorem z9h.below{g B:Nat}{o:Option Nat}{w w':World}(h:z9h g o w w')(b:B<=g)(a:∀r,o=some r->B<=r)(c:B<=w.heap.size):Below B w w':=⟨h.os,h.tape,h.output,h.size,λk d=>h.block k (by omega) (by omega) (λe=>by have:=a k e.symm;omega)⟩
theorem q9F(ao:Option Addr)(n c:Nat)(a:n<=c)(h0:ao=none->n=0)(hc:(n:Int)<4611686018427387904)(w:World):Calls prog 121 #[J1 ao n c] w λe w'=>e=.returned (J1 ao n n)/\w=w':=by
 have h1:(n:Int)<=(c:Int):=by omega
 have h2:(0:Int)<=(n:Int):=by omega
 go_enter func121,ntmps121
 cases ao
 ·obtain rfl:=h0 rfl;go_wp2;go_ret;exact⟨rfl,rfl⟩
 ·clear h0;go_wp2;go_ret;exact⟨rfl,rfl⟩
structure EnR(P:Nat->Prop)(w:World)(c:Cs)(pv:Value)(d:Cs)(wl:World):Prop where
 st:∃(u:CsV) (o:Option Nat) (Q:Nat->Prop),z7W Q (w.heap.size+2) o wl w.heap.size d u/\u.pd=pv/\(∀b,Q b->New P w 2 b)/\(∀r,o=some r->w.heap.size+2<=r)
 R:CAt 75 wl (w.heap.size+1) Z22
 B:Bl w wl
theorem EnR.take{P:Nat->Prop}{w wl g:World}{c d i:Cs}{pv:Value}{u:CsV}{o:Option Nat}{Q:Nat->Prop}{e:Ending}(h1:z7W Q (w.heap.size+2) o wl w.heap.size d u)(h3:∀b,Q b->New P w 2 b)(f:∀r,o=some r->w.heap.size+2<=r)(R:CAt 75 wl (w.heap.size+1) Z22)(B:Bl w wl)(h:j5t Q (w.heap.size+2) o wl w.heap.size i pv e g):e=.returned (.tuple #[])/\EnR P w c pv i g:=by
 obtain⟨v',j,k,l,t,m,q1,q2,q3,a⟩:=h;have p:w.heap.size+2<=wl.heap.size:=R.lt;refine⟨l,⟨v',j,k,t,m,λb hb=>?_,λr e=>?_⟩,?_,?_⟩
 ·rcases q1 b hb with⟨hq,_⟩|hq
  ·exact h3 b hq
  ·exact .inr (by omega)
 ·rcases q3 with rfl|⟨q,n,s⟩
  ·exact f r e
  ·rw[n]at e;cases e;omega
 ·exact R.keep (a.block _ R.lt (by omega) (λe=>by have:=f _ e.symm;omega))
 ·exact B.trans (a.below (Nat.le_refl _) (λr e=>by have:=f r e;omega) (by omega))
attribute [local go_sem ↓] z2f z1J
theorem j3z(c:Cs)(v:CsV)(P:Nat->Prop)(w:World)(now:Int)(hp:CIn P w c v)(a4:(c.rp.length+c.pd.length)*16<=168884986026393) :
  Calls prog 83 #[J4 (csC c v),.int .i64 now] w (j8E P w (z7A c now)):=by
 have hD:z7A c now=if z5t c=0 then(if isT now=true/\c.t<=now then(z2K { c with h:=c.h+1,t:=now},0)else(c,2))else(c,z5t c):=rfl
 have d2:Hid (z2K { c with h:=c.h+1,t:=now}=z1R { z1w { c with h:=c.h+1,t:=now} with pd:=[]} (z1w { c with h:=c.h+1,t:=now}).rp):=rfl
 have a5:Hid (z1w { c with h:=c.h+1,t:=now}=c.pd.foldl takeC { c with h:=c.h+1,t:=now}):=rfl
 have HB:=J6 (y1u hp);have a8:=J6 (λ(M:World) (h:q2t P w M c v)=>z4G w.heap.size c v P M h.C0 h.I0);have HD:=J6 hD;have K:=J6 a4
 have a9:Hid (z5t c=0->(0<=c.h/\c.h<1099511627776)/\(0<=c.t/\c.t<=1099511627776)/\c.pd.all z5R=true):=λh=>by
  have:=z4Y (q4U h).1;exact⟨⟨this.1.2.1,this.1.2.2⟩,this.2.1,this.2.2.2.2.1⟩
 clear hp hD a4;generalize z7A c now=D at *;generalize z2K { c with h:=c.h+1,t:=now}=DN at *
 generalize z1w { c with h:=c.h+1,t:=now}=TK at *
 generalize z5t c=RC at *;have d3:=J6 (λh=>q9i (n:=now) h);have N:=J6 (λ(M:World)=>z7Y now M)
 go_enter func83,ntmps83
 go_upto_region 1 with fail
 change Code.wp prog _ _ _ ((w.alloc (J5 (csC c v) 75)).alloc (J5 Z22 75));generalize (w.alloc (J5 (csC c v) 75)).alloc (J5 Z22 75)=w0 at *
 by_cases R:RC=0
 rotate_left
 ·have HR:=J6 (HD.out.trans (if_neg R));have e5:(RC != 0)=true:=by simpa using R
  go_upto_region 3 with(go_at_call 119;refine(a8.out _ HB.out).mono ?_;rintro e w1⟨rfl,q⟩;have a:=J6 (HB.out.over q);clear q;obtain⟨l1,s1⟩:=a.out.facts)
  go_wp2;exact a.out.z0M results83 _ _ HR.out _ rfl rfl rfl
 subst R;have HR:=J6 (HD.out.trans (if_pos rfl));clear HD;obtain⟨⟨e7,e8⟩,⟨e9,f4⟩,b4⟩:=a9.out rfl;have d4:=J6 b4;clear a9 b4
 go_upto_region 4 with(go_at_call 119;refine(a8.out _ HB.out).mono ?_;rintro e w1⟨rfl,q⟩;have a:=J6 (HB.out.over q);clear q)
 obtain⟨⟨-,-,a2,a3,-⟩,⟨-,a6,a7⟩,-⟩:=z1g a.out.C0;generalize isT now=T at *;cases T
 ·replace HR:=J6 (HR.out.trans (if_neg (by simp)))
  obtain⟨l1,s1⟩:=a.out.facts
  go_wp2_with (go_at_call 120;refine(N.out _).mono ?_;rintro e w'⟨rfl,rfl⟩)
  exact a.out.z0M results83 _ _ HR.out _ rfl rfl rfl
 obtain⟨b5,b6⟩:=d3.out rfl
 by_cases s:c.t<=now
 rotate_left
 ·replace HR:=J6 (HR.out.trans (if_neg (λh=>s h.2)));obtain⟨l1,s1⟩:=a.out.facts;have e6:now<c.t:=by omega
  go_wp2_with (go_at_call 120;refine(N.out _).mono ?_;rintro e w'⟨rfl,rfl⟩)
  exact a.out.z0M results83 _ _ HR.out _ rfl rfl rfl
 replace HR:=J6 (HR.out.trans (if_pos ⟨rfl,s⟩));have d5:=J6 s;clear s;have s:c.t<=now:=d5.out
 go_upto_region 6 with(go_at_call 120;refine(N.out _).mono ?_;rintro e w'⟨rfl,rfl⟩)
 -- height,time,ripes
 obtain⟨l,Cr,er,-,b7,-,-⟩:=a.out.I0.rp.open (z0c _) (by decide)
 have B:=(a.out.I0.rp.room er).1;have E:l=none->c.rp.length=0:=λh=>(b7 h).1;have F:(c.rp.length:Int)<4611686018427387904:=by have:=K.out;omega
 have f2:=a.out.C0.free 2;have f3:=a.out.C0.free 3;have f7:=a.out.C0.free 7;have d6:=a.out.C0.lt;have d7:Rep P w1 (J1 l c.rp.length c.rp.length) 2 8 (pwC c.rp):=by have:=a.out.I0.rp;rw[er]at this;exact this.clip
 rw[er]at a7;have C2:=((a.out.C0.set 2 (.int .i64 (c.h+1))).set 3 (.int .i64 now)).set 7 (J1 l c.rp.length c.rp.length);rw[j7X,j6Z,q7C _ _ c.rp]at C2;have R2:=((a.out.R0.other (c:=w.heap.size) (o:=2) (by omega) (.int .i64 (c.h+1))).other (c:=w.heap.size) (o:=3) (by omega) (.int .i64 now)).other (c:=w.heap.size) (o:=7) (by omega) (J1 l c.rp.length c.rp.length)
 have B2:=((a.out.B0.setCell (p:=⟨w.heap.size,2,none⟩) (Nat.le_refl _) (.int .i64 (c.h+1))).setCell (p:=⟨w.heap.size,3,none⟩) (Nat.le_refl _) (.int .i64 now)).setCell (p:=⟨w.heap.size,7,none⟩) (Nat.le_refl _) (J1 l c.rp.length c.rp.length)
 have kN:∀b,New P w 2 b->b<w1.heap.size->(((w1.setCell ⟨w.heap.size,2,none⟩ (.int .i64 (c.h+1))).setCell ⟨w.heap.size,3,none⟩ (.int .i64 now)).setCell ⟨w.heap.size,7,none⟩ (J1 l c.rp.length c.rp.length)).heap[b]?=w1.heap[b]?:=λb hb _=>by
  have U:b≠w.heap.size:=λe=>z7e P w (by rw[<-e];exact hb)
  rw[Below.heap_setCell _ _ _ _ U,Below.heap_setCell _ _ _ _ U,Below.heap_setCell _ _ _ _ U]
 have T2:z7W (New P w 2) (w.heap.size+2) none (((w1.setCell ⟨w.heap.size,2,none⟩ (.int .i64 (c.h+1))).setCell ⟨w.heap.size,3,none⟩ (.int .i64 now)).setCell ⟨w.heap.size,7,none⟩ (J1 l c.rp.length c.rp.length)) w.heap.size { c with h:=c.h+1,t:=now} { v with rp:=J1 l c.rp.length c.rp.length}:=by
  have V:=a.out.R0.lt;have n0:=a.out.N0;have f5:=a.out.I0;refine⟨C2,n0.set.keep kN,n0.pd.keep kN,.inl ⟨rfl,⟨l,rfl⟩,?_⟩,n0.said.keep kN,n0.due.keep kN,z7e P w,λr e=>(by cases e),by simp[World.setCell];omega⟩
  have:Rep (New P w 2) w1 (J1 l c.rp.length c.rp.length) 2 8 (pwC c.rp):=by have:=n0.rp;rw[er]at this;exact this.clip
  exact this.keep kN
 have E2:EnR P w c v.pd { c with h:=c.h+1,t:=now} (((w1.setCell ⟨w.heap.size,2,none⟩ (.int .i64 (c.h+1))).setCell ⟨w.heap.size,3,none⟩ (.int .i64 now)).setCell ⟨w.heap.size,7,none⟩ (J1 l c.rp.length c.rp.length)):=⟨⟨_,none,_,T2,rfl,λb hb=>hb,λr e=>(by cases e)⟩,R2,B2⟩
 have b8:=J6 E2;clear E2 T2 kN B2 R2 C2 d7 b7
 go_upto_region 7 with fail
 go_upto_region 8 with fail
 go_upto_region 9 with(go_at_call 121;refine(q9F l c.rp.length Cr B E F _).mono ?_;rintro e w'⟨rfl,rfl⟩)
 clear a2 a3 a6 a7 f2 f3 f7 d6 er B E F;generalize ((w1.setCell ⟨w.heap.size,2,none⟩ (.int .i64 (c.h+1))).setCell ⟨w.heap.size,3,none⟩ (.int .i64 now)).setCell ⟨w.heap.size,7,none⟩ (J1 l c.rp.length c.rp.length)=w2 at *
 obtain⟨Ap,Cp,ep⟩:∃Ap Cp,v.pd=J1 Ap c.pd.length Cp:=by
  obtain⟨z,V,hr,-⟩:=a.out.I0.pd;obtain⟨A,C,e,-⟩:=hr.open (z2D _ _ V) (by decide)
  exact⟨A,C,e⟩
 have d8:=J6 ep
 have a6:w2.cell? ⟨w.heap.size,6,none⟩=some (J1 Ap c.pd.length Cp):=by
  obtain⟨⟨u,o,Q,t,e,-⟩,-⟩:=b8.out;rw[<-ep,<-e];exact t.cat.cell 6
 have d9:(c.pd.length:Int)<4611686018427387904:=by have:=K.out;omega
 clear ep
 go_upto_region 10 with fail
 clear a6
 go_loopw [37] (λi wl=>∃(k:Nat),k<=c.pd.length/\i=.int .i64 (k:Int)/\Hid (EnR P w c (J1 Ap c.pd.length Cp) ((c.pd.take k).foldl takeC { c with h:=c.h+1,t:=now}) wl)) (λi _=>c.pd.length - (intOf i).toNat)
 case atStart=>exact⟨0,Nat.zero_le _,rfl,by have:=b8.out;rw[d8.out]at this;exact this⟩
 case round =>
  obtain⟨k,hk,rfl,HK⟩:=hrel
  by_cases W:k<c.pd.length
  ·have f8:(k:Int)<(c.pd.length:Int):=by omega
   obtain⟨⟨u,o,Q,T,eu,f,G⟩,RK,BK⟩:=HK.out;have tf:=z5x (c.pd.take k) { c with h:=c.h+1,t:=now}
   have b9:c.pd.take (k+1)=c.pd.take k++[c.pd[k]]:=List.take_succ_eq_append_getElem W;have H:(c.pd.take (k+1)).foldl takeC { c with h:=c.h+1,t:=now}=takeC ((c.pd.take k).foldl takeC { c with h:=c.h+1,t:=now}) c.pd[k]:=by rw[b9,List.foldl_append];rfl
   have L:z5R c.pd[k]=true:=(List.all_eq_true.1 d4.out) _ (List.getElem_mem W);have hx:c.pd[k]?=some c.pd[k]:=List.getElem?_eq_getElem W;have c6:((c.pd.take k).foldl takeC { c with h:=c.h+1,t:=now}).rp.length=c.rp.length+k:=by rw[tf.2.2];simp;omega
   have c7:=J6 H;generalize (c.pd.take k).foldl takeC { c with h:=c.h+1,t:=now}=d at *
   generalize c.pd[k]=x at *;obtain⟨X,g,-⟩:=tf;dsimp only at X g;obtain⟨z,V,hr,Y⟩:=T.pd;rw[X]at V hr Y;obtain⟨A',C',e',-,-,c8,-⟩:=hr.open (z2D _ _ V) (by decide)
   rw[eu]at e';cases e';obtain⟨b,off,rfl,-,e0,hcell⟩:=c8 (by omega)
   have hy:z[k]?=some z[k]:=List.getElem?_eq_getElem (by omega)
   obtain⟨r1,r2⟩:=Y k x _ hx hy
   have cl:∀j,j<6->∀u',(pkL x z[k])[j]?=some u'->wr.cell? ⟨b,off+k*6+j,none⟩=some u':=λj hj u' hu=>by
    rw[Nat.add_assoc];exact hcell _ _ ((z8v c.pd z k x _ j hx hy hj).trans hu)
   have c0:=cl 0 (by omega) _ rfl
   have c1:=cl 1 (by omega) _ rfl
   have c2:=cl 2 (by omega) _ rfl
   have c3:=cl 3 (by omega) _ rfl
   have c4:=cl 4 (by omega) _ rfl
   have c5:=cl 5 (by omega) _ rfl
   rw[Nat.add_zero]at c0
   have c9:Cd.z0n x.k x.i x.v x.n x.S x.D=0:=by
    unfold z5R at L;simp only[Bool.and_eq_true,decide_eq_true_eq]at L;exact L.2
   have hD:=q1B x.D (-1) (z6D c9).2;generalize z[k]=y at *;obtain⟨y1,y2⟩:=y;dsimp only at c4 c5 r1 r2;obtain⟨A1,n1,C1,e1,-⟩:=id r1;obtain⟨A2,n2,C2,e2,-⟩:=id r2;subst e1 e2;have Z:=J6 (λ(M:World) (hb:Bl wr M)=>q8j w.heap.size d u x (J1 A1 n1 C1) (J1 A2 n2 C2) Q (w.heap.size+2) o M (T.later hb) (r1.over hb) (r2.over hb) hD (by rw[c6];have:=K.out;omega) (by rw[g];exact b5) (by rw[g];exact b6))
   have bA:Bl wr (wr.alloc (J5 #[.int .i64 x.k,.int .i64 x.i,.int .i64 x.v,.int .i64 x.n,J1 A1 n1 C1,J1 A2 n2 C2] 68)):=znw wr _;have m:=J6 (show _/\_/\_/\_/\_ from⟨T.later bA,f,G,RK.over bA,zbt BK bA⟩);rw[eu]at Z;clear T RK BK f G Y hr V c8 hcell cl r1 r2 hD c9 L hx hy eu bA e0 c6 X g H b9;obtain⟨xk,xi,xv,xn,xS,xD⟩:=x;dsimp only at c0 c1 c2 c3 Z m
   go_upto_region 13 with(go_at_call 122;refine(Z.out _ (by exact znw wr _)).mono ?_;intro e w5 d0;have a0:=J6 (EnR.take (c:=c) m.out.1 m.out.2.1 m.out.2.2.1 m.out.2.2.2.1 m.out.2.2.2.2 d0);obtain rfl:=a0.out.1;clear d0)
   go_wp2
   first|exact⟨⟨k+1,by omega,by go_num,by rw[c7.out];exact a0.out.2⟩,by simp[intOf];omega⟩|((repeat apply Exists.intro);exact⟨⟨k+1,by omega,by go_num,by rw[c7.out];exact a0.out.2⟩,rfl⟩)
  ·obtain rfl:k=c.pd.length:=by omega
   rw[List.take_length,<-a5.out]at HK;have tf:=z5x c.pd { c with h:=c.h+1,t:=now}
   rw[<-a5.out]at tf;obtain⟨-,g,d1⟩:=tf;dsimp only at g d1;obtain⟨⟨u,o,Q,T,eu,f,G⟩,RK,BK⟩:=HK.out;have V:=RK.lt;have a6:wr.cell? ⟨w.heap.size,6,none⟩=some u.pd:=T.cat.cell 6;rw[eu]at a6;have f6:=T.cat.free 6;have e3:=T.cat.lt;have C5:=T.cat.set 6 (J1 none 0 0);rw[j4t _ _ []]at C5;have I5:CIn (New P w 2) wr { TK with pd:=[]} { u with pd:=J1 none 0 0}:=⟨T.set.mono λb _ hb=>f b hb,z7Z.nil _ _,T.rp.rep (by rw[d1];exact K.out) (λb _ hb=>f b hb) (λb e=>.inr (G b e)),T.said.mono λb _ hb=>f b hb,T.due.mono λb _ hb=>f b hb⟩
   have I6:=I5.set1 (z7e P w) 6 (J1 none 0 0);have R6:=RK.other (c:=w.heap.size) (o:=6) (by omega) (J1 none 0 0)
   have B6:=BK.setCell (p:=⟨w.heap.size,6,none⟩) (Nat.le_refl _) (J1 none 0 0);have e4:(wr.setCell ⟨w.heap.size,6,none⟩ (J1 none 0 0)).heap.size=wr.heap.size:=by simp[World.setCell]
   have a1:=J6 (q1O w.heap.size { TK with pd:=[]} { u with pd:=J1 none 0 0} (New P w 2) _ C5 I6 (z7e P w) (by show 0<=TK.t;rw[g];exact b5) (by show TK.t<=_;rw[g];exact b6))
   have HZ:=J6 (show _/\_ from⟨R6,B6⟩);clear C5 I5 I6 R6 B6 T RK BK f G eu
   go_upto_region 15 with fail
   clear a6 f6 e3;generalize wr.setCell ⟨w.heap.size,6,none⟩ (J1 none 0 0)=w6 at *;dsimp only at a1;rw[<-d2.out]at a1
   go_upto_region 16 with(go_at_call 123;refine a1.out.mono ?_;rintro e w7⟨v7,rfl,C7,I7,A7⟩)
   have R7:=A7.cat (by omega) HZ.out.1
   have B7:Bl w w7:=HZ.out.2.trans (A7.below (Nat.le_refl _) (by have:=HZ.out.2.size;omega))
   have N7:CIn (New P w 2) w7 DN v7:=I7.mono λb _ h=>z7K (by rw[e4];omega) h
   have l7:=z3n C7 (z0r _ _);have s7:=z2v R7 z0C (z0r DN v7) (z2p N7);have HU:=J6 (show _/\_/\_ from⟨R7,B7,N7⟩);clear C7 R7 B7 N7 I7 A7;go_wp2;exact z6w results83 HU.out.1 z0C HU.out.2.1 _ _ 0 D HR.out HU.out.2.2 _ rfl rfl rfl
end Kc
namespace Wd
open Go.RowKit Pv Kc
def Jn2{α β:Type}(A:α->β->Act)(R:α->β->World->Prop)(ex:Exit)(a:Act)(w:World):Prop:=∃x y,ex=Exit.normal/\a=A x y/\R x y w
theorem q1P{α β:Type}{P:Program}{c:Code}{Q:Exit->Act->World->Prop}{a:Act}{w:World}(R:α->β->World->Prop)(A:α->β->Act)(h1:Code.wp P c (Jn2 A R) a w)(h2:∀x y w',R x y w'->Q Exit.normal (A x y) w'):Code.wp P c Q a w:=
 Code.wp_mono (λe b w' h=>by obtain⟨x,y,rfl,rfl,h⟩:=h;exact h2 x y w' h) h1
def Jn3{α β γ:Type}(A:α->β->γ->Act)(R:α->β->γ->World->Prop)(ex:Exit)(a:Act)(w:World):Prop:=∃x y z,ex=Exit.normal/\a=A x y z/\R x y z w
theorem y0q{α β γ:Type}{P:Program}{c:Code}{Q:Exit->Act->World->Prop}{a:Act}{w:World}(R:α->β->γ->World->Prop)(A:α->β->γ->Act)(h1:Code.wp P c (Jn3 A R) a w)(h2:∀x y z w',R x y z w'->Q Exit.normal (A x y z) w'):Code.wp P c Q a w:=
 Code.wp_mono (λe b w' h=>by obtain⟨x,y,z,rfl,rfl,h⟩:=h;exact h2 x y z w' h) h1
structure y1N(P:Nat->Prop)(w0:World)(rc:Cs)(gn:Nat)(ts:Array Value)(w:World):Prop where
 ex:∃u,ts=csC rc u/\CIn (λb=>New P w0 0 b/\b≠gn) w rc u
 cat:CAt 75 w gn ts
 bel:Bl w0 w
 le:w0.heap.size<=gn
theorem j3T{P:Nat->Prop}{w0 c a:World}{rc:Cs}{u:CsV}{k:Nat}(h:CIn (New (λb=>P b/\b<w0.heap.size) c k) a rc u)(e:c.heap.size=w0.heap.size)(hb:Bl w0 a):y1N P w0 rc a.heap.size (csC rc u) ((a.alloc (J5 Z22 75)).setCells a.heap.size 0 (csC rc u).toList):=by
 have d:Bl a ((a.alloc (J5 Z22 75)).setCells a.heap.size 0 (csC rc u).toList):=z0b (Nat.le_refl _) _ _ _ (znw a _);refine⟨⟨u,rfl,?_⟩,(CAt.new 75 a Z22).z0L (by rw[z0C];rfl),zbt hb d,hb.size⟩
 refine((h.mono (P':=λb=>New P w0 0 b/\b≠a.heap.size) λb f hp=>⟨?_,by omega⟩).over d)
 rcases hp with⟨hp,_⟩|hp
 ·exact .inl hp
 ·exact .inr (by omega)
theorem j4p{P:Nat->Prop}{w0 c a:World}{rc:Cs}{u:CsV}{k:Nat}(h:CIn (New (λb=>P b/\b<w0.heap.size) c k) a rc u)(d:c.heap.size=w0.heap.size+1)(hb:Bl w0 a)(hc:CAt 75 a w0.heap.size Z22):y1N P w0 rc w0.heap.size (csC rc u) (a.setCells w0.heap.size 0 (csC rc u).toList):=by
 refine⟨⟨u,rfl,?_⟩,hc.z0L (by rw[z0C];rfl),z0b (Nat.le_refl _) _ _ _ hb,Nat.le_refl _⟩
 have h':CIn (λb=>New P w0 0 b/\b≠w0.heap.size) a rc u:=h.mono λb _ hp=>by
  rcases hp with⟨hp,_⟩|hp
  ·exact⟨.inl hp,by omega⟩
  ·exact⟨.inr (by omega),by omega⟩
 exact h'.sets (λe=>e.2 rfl) _ _
theorem j5a{w:World}{g:Nat}{x:Wo}{v:WoV}(h:CAt 97 w g (wdC x v)){i:Nat}(a:i<2):w.cell? ⟨g,68+i*14+6+2,none⟩=some (J I (x.p.L i).out.g):=by
 rw[h.cell]
 match i,a with
 | 0,_=>rfl
 | 1,_=>rfl
theorem z1h.q3P{P:Nat->Prop}{w w' w1:World}{g:Nat}{x:Wo}(h:z1h P w g x w')(_:¬ P g)(d:w1.heap.size=w.heap.size:=by rfl):z1h (New P w1 0) w g x w':=by
 obtain⟨v,c,i,a⟩:=h;refine⟨v,c,i.mono λb _ hb=>?_,a⟩
 rcases hb with⟨hb,hl⟩|hb
 ·exact .inl ⟨.inl ⟨hb,by omega⟩,hl⟩
 ·exact .inr hb
attribute [local go_sem ↓] z2f z1J z7a
theorem q7J(g:Nat)(x:Wo)(v:WoV)(P:Nat->Prop)(w:World)(i:Nat)(N:i<2)(Y:CAt 97 w g (wdC x v))(hI:WIn P w x v)(hg:¬ P g)(a0:((x.c i).rp.length+(x.c i).pd.length)*16<=168884986026393) :
  Calls prog 61 #[J2 (some ⟨g,0,none⟩),.int .i64 (i:Int)] w (q3i P w g (z3T x i)):=by
 have hD:z3T x i=if(z7A (x.c i) x.ck).2=0 then({ x with c:=z2k x.c i (z7A (x.c i) x.ck).1,hc:=q7g x.hc i (z8R (z7A (x.c i) x.ck).1 (x.p.L i).out.g)},0)else(x,(z7A (x.c i) x.ck).2):=by unfold z3T;rfl
 have a1:=Y.lt;have a8:(i:Int)<2:=by omega
 have a9:(0:Int)<=(i:Int):=by omega
 have B:=J6 (λ(f:World) (hb:Bl w f)=>j3z (x.c i) (v.c i) (λb=>P b/\b<w.heap.size) f x.ck (((hI.c i N).mono (P':=λb=>P b/\b<w.heap.size) λb hl hp=>⟨hp,hl⟩).over hb) a0);have C:=J6 (λ(f:World) (hb:Bl w f)=>(show(z7n (J2 (some ⟨g,99+i*22,none⟩))).run prog f=.ok (J4 (csC (x.c i) (v.c i))) f/\f.cell? ⟨g,0,none⟩=some (.int .i64 x.ck)from⟨j6H ((q1x x v N (x.c i) (v.c i)).part (Y.over hb)) (z0r _ _),(Y.over hb).cell 0⟩));generalize z3T x i=D at *;generalize z7A (x.c i) x.ck=r at *;obtain⟨rc,H⟩:=r;dsimp only at hD;have HD:=J6 hD;have HC:=J6 Y;have HI:=J6 hI;clear hD Y hI a0;generalize Value.agg (csC (x.c i) (v.c i))=V0 at B C;have s:Hid (Bl w (w.alloc (J5 Z22 75)).drew):=(znw w _).drew;have M:Hid (CAt 75 (w.alloc (J5 Z22 75)).drew w.heap.size Z22):=CAt.new 75 w Z22;unfold Z22 at s
 go_enter func61,ntmps61
 go_upto_region 1 with fail
 apply q1P (λ(gn:Nat) (ts:Array Value) w'=>y1N P w rc gn ts w')
 ·skip;refine wp_region_noPanic ?_;refine wp_region_held_drew (S:=λf=>Bl w f) (by kernel_rfl) (Below.refl _ _).drew (λa=>?_)
  refine O.G 0 (J2 (some ⟨g,0,none⟩)) 8 rfl rfl a ?_;refine O.G 1 (.int .i64 (i:Int)) 9 rfl rfl a ?_;refine O.G 2 (J2 (some ⟨g,0,none⟩)) 10 rfl rfl a ?_;refine O.G 3 (J2 (some ⟨g,99,none⟩)) 11 rfl rfl a ?_;refine O.G 4 (J2 (some ⟨g,99+i*22,none⟩)) 12 rfl rfl a ?_;refine O.Z 5 V0 13 rfl rfl a (λf d=>by obtain⟨l1,l2⟩:=C.out f d;go_simp) ?_
  refine O.G 6 (J2 (some ⟨g,0,none⟩)) 14 rfl rfl a ?_;refine O.G 7 (J2 (some ⟨g,0,none⟩)) 15 rfl rfl a ?_;refine O.G 8 (J2 (some ⟨g,0,none⟩)) 16 rfl rfl a ?_;refine O.Z 9 (.int .i64 x.ck) 17 rfl rfl a (λf d=>by obtain⟨l1,l2⟩:=C.out f d;go_simp) ?_
  refine O.z4n (i:=10) (j:=14) (by kernel_rfl) rfl rfl rfl rfl (λK z=>?_) (λK z=>?_)
  ·go_simp
   go_at_call 83
   refine(B.out _ (by with_reducible exact(Below.refl w.heap.size w).drew)).mono ?_
   rintro e w3⟨u3,rfl,Q,E⟩;dsimp only at Q;have hb:=(Below.refl w.heap.size w).drew.trans (E.mono (Below.refl w.heap.size w).drew.size);obtain⟨ts,k⟩:∃y:Array Value,y=csC rc u3:=⟨_,rfl⟩;dsimp only;rw[<-k];have F:=J6 k;clear k;refine z _ _ hb ?_;clear z K;refine O.Z 11 (.tuple #[J4 ts,(.int .i64 H)]) 7 rfl rfl hb (λf d=>?_) ?_
   ·go_simp
   refine O.Z 12 (J4 ts) 19 rfl rfl hb (λf d=>?_) ?_
   ·go_simp
   refine O.Z 13 (.int .i64 H) 20 rfl rfl hb (λf d=>?_) ?_
   ·go_simp
   refine O.z1k (i:=14) (by kernel_rfl) rfl rfl (λK z=>?_)
   go_simp;refine z _ _ (hb.alloc hb.size _) ?_;clear z K;have q2:ts.all (λx=>x.oneCell')=true:=by rw[F.out];exact z2p Q
   have m:=j3T Q (by rfl) hb
   rw[<-F.out]at m;change wpAnyH _ _ _ _ _ _ _ _ (w3.alloc (J5 Z22 75));refine O.z0D (i:=15) (by kernel_rfl) rfl rfl 75 _ _ rfl rfl w3.heap.size 0 ts rfl rfl ((CAt.new 75 w3 Z22).there 0 _ (by rw[F.out];exact Nat.le_of_eq rfl)) (by rw[F.out,z3K];rfl) q2 m.bel ?_
   refine O.Z 16 (.int .i64 H) 6 rfl rfl m.bel (λf d=>?_) ?_
   ·go_simp
   refine wpAnyH_done (by kernel_rfl) ?_ _
   obtain⟨gn,R⟩:∃y,y=w3.heap.size:=⟨_,rfl⟩;rw[<-R]at m⊢;simp only[O.pp,O.pb,O.pc];exact NoPanic.normal ⟨gn,ts,rfl,rfl,m⟩
  ·go_simp;refine z _ _ (a.alloc a.size _) ?_;clear z K;refine O.z1k (i:=10) (by kernel_rfl) rfl rfl (λK z=>?_)
   go_simp
   go_at_call 83
   refine(B.out _ (by with_reducible exact s.out)).mono ?_
   rintro e w3⟨u3,rfl,Q,E⟩;dsimp only at Q;have hb:=zbt s.out E;obtain⟨ts,k⟩:∃y:Array Value,y=csC rc u3:=⟨_,rfl⟩;dsimp only;rw[<-k];have F:=J6 k;clear k;refine z _ _ hb ?_;clear z K;refine O.Z 11 (.tuple #[J4 ts,(.int .i64 H)]) 7 rfl rfl hb (λf d=>?_) ?_
   ·go_simp
   refine O.Z 12 (J4 ts) 19 rfl rfl hb (λf d=>?_) ?_
   ·go_simp
   refine O.Z 13 (.int .i64 H) 20 rfl rfl hb (λf d=>?_) ?_
   ·go_simp
   have q2:ts.all (λx=>x.oneCell')=true:=by rw[F.out];exact z2p Q
   have R3:=M.out.over E;have m:=j4p Q (by simp) hb R3
   rw[<-F.out]at m;refine O.z0D (i:=15) (by kernel_rfl) rfl rfl 75 _ _ rfl rfl w.heap.size 0 ts rfl rfl (R3.there 0 _ (by rw[F.out];exact Nat.le_of_eq rfl)) (by rw[F.out,z3K];rfl) q2 m.bel ?_
   refine O.Z 16 (.int .i64 H) 6 rfl rfl m.bel (λf d=>?_) ?_
   ·go_simp
   refine wpAnyH_done (by kernel_rfl) ?_ _
   obtain⟨gn,R⟩:∃y,y=w.heap.size:=⟨_,rfl⟩;rw[<-R]at m⊢;simp only[O.pp,O.pb,O.pc];exact NoPanic.normal ⟨gn,ts,rfl,rfl,m⟩
 rintro gn ts w5 S5;have q:=J6 S5;have b4:=S5.le;have a6:=S5.cat.lt;clear S5 C B s M;have b5:g≠gn:=by omega
 simp only[Exit.then];apply_assumption
 by_cases hE:H=0
 case neg =>
  replace HD:=J6 (HD.out.trans (if_neg hE));have b6:(H != 0)=true:=by simpa using hE
  go_wp2;go_ret;rw[HD.out];exact⟨rfl,.same (HC.out.over q.out.bel) HI.out hg (Alt.of q.out.bel)⟩
 subst hE;replace HD:=J6 (HD.out.trans (if_pos rfl))
 go_upto_region 4 with fail
 obtain⟨u,T,U⟩:=q.out.ex;have k:ts.size=22:=by rw[T];rfl
 have V:=J6 (show _/\_ from⟨T,U.over (Below.refl w5.heap.size w5).drew⟩);clear T;refine wp_region_held_drew (S:=λf=>(z7n (J2 (some ⟨gn,0,none⟩))).run prog f=.ok (J4 ts) f) (by kernel_rfl) (z3n (q.out.cat.over (Below.refl w5.heap.size w5).drew) k) (λa=>?_)
 refine O.G 0 (J2 (some ⟨g,0,none⟩)) 24 rfl rfl a ?_;refine O.G 1 (.int .i64 (i:Int)) 25 rfl rfl a ?_;refine O.Z 2 (J4 ts) 26 rfl rfl a (λf d=>?_) ?_
 ·(try dsimp only at d);have l:=d;go_simp
 refine O.G 3 (J2 (some ⟨g,0,none⟩)) 27 rfl rfl a ?_;refine O.G 4 (J2 (some ⟨g,99,none⟩)) 28 rfl rfl a ?_;refine O.G 5 (J2 (some ⟨g,99+i*22,none⟩)) 29 rfl rfl a ?_;have q1:(Option.map (λx=>x.size) (prog.info? 75))=some ts.size:=by rw[k,z3K]
 have q2:ts.all (λx=>x.oneCell')=true:=by rw[V.out.1];exact z2p V.out.2
 have q3:w5.drew.there g (99+i*22) ts.size:=by rw[V.out.1];exact by simpa using(q1x x v N rc u).there ((HC.out.over q.out.bel).over (Below.refl w5.heap.size w5).drew)
 have qS:=z3n ((q.out.cat.over (Below.refl w5.heap.size w5).drew).others (c:=g) (o:=99+i*22) (by omega) ts.toList) k
 simp only[O.pp,O.pb,O.pc];refine O.z0D (i:=6) (by kernel_rfl) rfl rfl 75 _ _ rfl rfl g (99+i*22) ts rfl rfl q3 q1 q2 qS ?_
 refine wpAnyH_done (by kernel_rfl) ?_ _
 have Z6:=q3d HI.out hg (Below.refl _ w) HC.out a1 (q.out.bel.trans ((Below.refl w5.heap.size w5).drew.mono q.out.bel.size)) N (V.out.2.mono (P':=New P w 0) λb _ hb=>hb.1);rw[<-V.out.1]at Z6;have W:=(q.out.cat.over (Below.refl w5.heap.size w5).drew).others (c:=g) (o:=99+i*22) (by omega) ts.toList
 clear q1 q2 q3 qS a;generalize w5.drew.setCells g (99+i*22) ts.toList=w6 at *;obtain⟨v6,X,I6,A6⟩:=Z6;obtain⟨As,Ds,es,-,-⟩:=z5B U.said (z2a rc.out.S) (by decide)
 rw[V.out.1]at W;have a7:=X.lt;have n:=(Below.refl w6.heap.size w6).drew
 have a2:w6.drew.cell? ⟨gn,2,none⟩=some (.int .i64 rc.h)/\w6.drew.cell? ⟨gn,3,none⟩=some (.int .i64 rc.t)/\w6.drew.cell? ⟨gn,14,none⟩=some (J1 As rc.out.S.length Ds)/\w6.drew.cell? ⟨g,68+i*14+6+2,none⟩=some (.int .i64 (x.p.L i).out.g):=
  ⟨(W.over n).cell 2,(W.over n).cell 3,by rw[<-es];exact(W.over n).cell 14,j5a (X.over n) N⟩
 have A:=j9f { x with c:=z2k x.c i rc} v6 N (z8R rc (x.p.L i).out.g)
 rw[show 147+i*8=143+i*8+4 by omega]at A
 have a5:=J6 A;have D7:=(W.over n).others (c:=g) (o:=143+i*8+4) (by omega) (hdL (z8R rc (x.p.L i).out.g))
 have C7:=A.sets (X.over n)
 have a3:Hid ((w6.drew.setCells g (143+i*8+4) (hdL (z8R rc (x.p.L i).out.g))).cell? ⟨gn,2,none⟩=some (.int .i64 rc.h)/\(w6.drew.setCells g (143+i*8+4) (hdL (z8R rc (x.p.L i).out.g))).cell? ⟨gn,3,none⟩=some (.int .i64 rc.t)/\(w6.drew.setCells g (143+i*8+4) (hdL (z8R rc (x.p.L i).out.g))).cell? ⟨gn,14,none⟩=some (J1 As rc.out.S.length Ds)/\(w6.drew.setCells g (143+i*8+4) (hdL (z8R rc (x.p.L i).out.g))).cell? ⟨g,68+i*14+6+2,none⟩=some (.int .i64 (x.p.L i).out.g)):=
  ⟨D7.cell 2,D7.cell 3,by rw[<-es];exact D7.cell 14,j5a C7 N⟩
 have a4:¬ New P w 0 g:=Pv.z0R hg a1;have Z7:=j8h (I6.over n) a4 (X.over n) A rfl rfl;have HX:=J6 (z1h.trans A6 (z1h.trans (Alt.of (g:=g) n) (Z7.q3P a4)));have H6:=J6 (show _/\_ from⟨X,I6⟩);clear X I6 A6 W D7 C7 Z7 A n es U;go_simp
 go_upto_region 5 with fail
 refine wp_region_held_drew (S:=λf=>f.cell? ⟨gn,2,none⟩=some (.int .i64 rc.h)/\f.cell? ⟨gn,3,none⟩=some (.int .i64 rc.t)/\f.cell? ⟨gn,14,none⟩=some (J1 As rc.out.S.length Ds)/\f.cell? ⟨g,68+i*14+6+2,none⟩=some (.int .i64 (x.p.L i).out.g)) (by kernel_rfl) a2 (λa=>?_)
 refine O.G 0 (J2 (some ⟨g,0,none⟩)) 30 rfl rfl a ?_;refine O.G 1 (.int .i64 (i:Int)) 31 rfl rfl a ?_;refine O.G 2 (J2 (some ⟨gn,2,none⟩)) 32 rfl rfl a ?_;refine O.Z 3 (.int .i64 rc.h) 33 rfl rfl a (λf d=>by obtain⟨l1,l2,l3,l4⟩:=d;go_simp) ?_
 refine O.G 4 (J2 (some ⟨gn,3,none⟩)) 34 rfl rfl a ?_;refine O.Z 5 (.int .i64 rc.t) 35 rfl rfl a (λf d=>by obtain⟨l1,l2,l3,l4⟩:=d;go_simp) ?_
 refine O.G 6 (J2 (some ⟨gn,14,none⟩)) 36 rfl rfl a ?_;refine O.G 7 (J2 (some ⟨gn,14,none⟩)) 37 rfl rfl a ?_;refine O.Z 8 (J1 As rc.out.S.length Ds) 38 rfl rfl a (λf d=>by obtain⟨l1,l2,l3,l4⟩:=d;go_simp) ?_
 refine O.G 9 (.int .i64 (rc.out.S.length:Int)) 39 rfl rfl a ?_;refine O.G 10 (J2 (some ⟨g,0,none⟩)) 40 rfl rfl a ?_;refine O.G 11 (.int .i64 (i:Int)) 41 rfl rfl a ?_;refine O.G 12 (J2 (some ⟨g,0,none⟩)) 42 rfl rfl a ?_;refine O.G 13 (J2 (some ⟨g,2,none⟩)) 43 rfl rfl a ?_;refine O.G 14 (J2 (some ⟨g,68,none⟩)) 44 rfl rfl a ?_;refine O.G 15 (J2 (some ⟨g,68+i*14,none⟩)) 45 rfl rfl a ?_;refine O.G 16 (J2 (some ⟨g,68+i*14+6,none⟩)) 46 rfl rfl a ?_;refine O.G 17 (J2 (some ⟨g,68+i*14+6+2,none⟩)) 47 rfl rfl a ?_;refine O.Z 18 (.int .i64 (x.p.L i).out.g) 48 rfl rfl a (λf d=>by obtain⟨l1,l2,l3,l4⟩:=d;go_simp) ?_
 refine O.G 19 (J4 #[.int .i64 rc.h,.int .i64 rc.t,.int .i64 (rc.out.S.length:Int),.int .i64 (x.p.L i).out.g]) 49 rfl rfl a ?_;refine O.G 20 (J2 (some ⟨g,0,none⟩)) 50 rfl rfl a ?_;refine O.G 21 (J2 (some ⟨g,143,none⟩)) 51 rfl rfl a ?_;refine O.G 22 (J2 (some ⟨g,143+i*8,none⟩)) 52 rfl rfl a ?_;refine O.G 23 (J2 (some ⟨g,143+i*8+4,none⟩)) 53 rfl rfl a ?_;have q1:(Option.map (λx=>x.size) (prog.info? 50))=some (#[.int .i64 rc.h,.int .i64 rc.t,.int .i64 (rc.out.S.length:Int),.int .i64 (x.p.L i).out.g]:Array Value).size:=by rw[q3U];rfl
 have q2:(#[.int .i64 rc.h,.int .i64 rc.t,.int .i64 (rc.out.S.length:Int),.int .i64 (x.p.L i).out.g]:Array Value).all (λx=>x.oneCell')=true:=by simp[Value.oneCell']
 have q3:w6.drew.there g (143+i*8+4) (#[.int .i64 rc.h,.int .i64 rc.t,.int .i64 (rc.out.S.length:Int),.int .i64 (x.p.L i).out.g]:Array Value).size:=a5.out.there (H6.out.1.over (Below.refl w6.heap.size w6).drew);simp only[O.pp,O.pb,O.pc];refine O.z0D (i:=24) (by kernel_rfl) rfl rfl 50 _ _ rfl rfl g (143+i*8+4) #[.int .i64 rc.h,.int .i64 rc.t,.int .i64 (rc.out.S.length:Int),.int .i64 (x.p.L i).out.g] rfl rfl q3 q1 q2 a3.out ?_
 refine wpAnyH_done (by kernel_rfl) ?_ _
 change Exit.then _ _ _ _ (w6.drew.setCells g (143+i*8+4) (hdL (z8R rc (x.p.L i).out.g)));clear q1 q2 q3 a a2 a3;generalize w6.drew.setCells g (143+i*8+4) (hdL (z8R rc (x.p.L i).out.g))=w7 at *;go_simp;go_wp2;go_ret;rw[HD.out];exact⟨rfl,HX.out⟩
end Wd
namespace Wd
open Go.RowKit Pv Kc
def y2K:CsV:=⟨J1 none 0 0,J1 none 0 0,J1 none 0 0,J1 none 0 0,J1 none 0 0⟩
def q2v:WoV:=⟨q2y,λ_=>y2K⟩
theorem j8Q(P:Nat->Prop)(w:World):CIn P w csN y2K:=⟨Rep.nil _ _ _ _,z7Z.nil _ _,Rep.nil _ _ _ _,z0U.nil _ _ _ _,z0U.nil _ _ _ _⟩
theorem j7B(P:Nat->Prop)(w:World):WIn P w z8y q2v:=by
 refine⟨⟨Rep.nil _ _ _ _,Rep.nil _ _ _ _,λc _=>⟨Rep.nil _ _ _ _,Rep.nil _ _ _ _,z0U.nil _ _ _ _,z0U.nil _ _ _ _⟩,⟨[],rfl,Rep.nil _ _ _ _,λi x y h=>by cases h⟩⟩,λi _=>j8Q P w⟩
theorem j2k(w:World):Calls prog 7 #[] w λe w'=>∃g,e=.returned (J2 (some ⟨g,0,none⟩))/\CAt 97 w' g (wdC z8y q2v)/\w.heap.size<=g/\Bl w w':=by
 have d:=J6 (j1N w);have f:Hid (∀w1:World,Bl w w1->CAt 97 (w1.alloc (J5 (wdC z8y q2v) 97)) w1.heap.size (wdC z8y q2v)/\Bl w (w1.alloc (J5 (wdC z8y q2v) 97))):=λw1 hb=>⟨CAt.new _ w1 _,hb.alloc hb.size _⟩
 go_enter func7,ntmps7
 go_upto_region 1 with fail
 apply wp_region_lit
 go_step
 go_step
 refine d.out.mono ?_;rintro e w1⟨rfl,h1⟩;have b:=J6 h1;clear h1;dsimp only
 go_step
 go_step
 go_step
 change Oper.upon prog _ _ _ _ (Result.ok (Next.value (J4 (wdC z8y q2v))) w1);obtain⟨C,B⟩:=f.out w1 b.out;obtain⟨ts,a⟩:∃y,y=wdC z8y q2v:=⟨_,rfl⟩;rw[<-a]at C B⊢;have c:=J6 (show _/\_/\_ from⟨C,B,a⟩);clear C B a;go_simp;apply_assumption;go_wp2;go_ret;refine⟨w1.heap.size,rfl,?_,b.out.size,c.out.2.1⟩;have h:=c.out.1;have e:=c.out.2.2;exact Eq.mp (congrArg (CAt 97 _ _) e) h
theorem q6l(g:Nat)(x:Wo)(v:WoV)(w:World)(a:CAt 97 w g (wdC x v)):Calls prog 32 #[J2 (some ⟨g,0,none⟩)] w λe w'=>e=.returned (J I x.ck)/\w=w':=by
 have c0:w.cell? ⟨g,0,none⟩=some (J I x.ck):=a.cell 0;have b:=a.lt;clear a
 go_enter func32,ntmps32
 go_wp2;go_ret;exact⟨rfl,rfl⟩
end Wd
end Go.Proofs.YtddlhnoedldidaaGreat
