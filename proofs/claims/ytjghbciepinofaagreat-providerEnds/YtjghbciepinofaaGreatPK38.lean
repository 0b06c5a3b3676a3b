/- Parts of the proof. -/
import Derived.Test.YtjghbciepinofaaGreatPL
import Derived.Test.YtjghbciepinofaaGreatPK27
set_option maxRecDepth 100000
set_option maxHeartbeats 16000000
namespace Go.Proofs.YtjghbciepinofaaGreat
open Go.Proofs.Tryz
open Value renaming int->J,slice->J1,pointer->J2,bool->J3,agg->J4
open IntKind renaming i64->I
open Obj renaming cells->J5
namespace Pv
open Go.RowKit
theorem q4w{p:Pr}{v:PrV}(k:Nat)(a:k<2)(l:List Int)(U:Value) :
  (prC p v).setIfInBounds (66+k * 14+5) U=prC { p with L:=z3d p.L k { p.L k with done:=l } } (v.upd k ⟨(v.l k).told,U,(v.l k).said,(v.l k).due⟩):=by
 match k,a with
 | 0,_=>rfl
 | 1,_=>rfl
theorem q5Z{P:Nat->Prop}{w:World}{p:Pr}{v:PrV}(h:PIn P w p v)(k:Nat)(l:List Int)(U:Value)(h1:Rep P w U 1 8 (inC l)) :
  PIn P w { p with L:=z3d p.L k { p.L k with done:=l } } (v.upd k ⟨(v.l k).told,U,(v.l k).said,(v.l k).due⟩):=by
 refine⟨h.ws,h.set,fun c a=>?_,h.q⟩
 show z5Z P w (if c=k then _ else p.L c) (if c=k then _ else v.l c)
 by_cases e:c=k
 ·subst e;rw[if_pos rfl,if_pos rfl];have:=h.lk c a;exact⟨this.told,h1,this.said,this.due⟩
 ·rw[if_neg e,if_neg e];exact h.lk c a
theorem PIn.put{P:Nat->Prop}{w:World}{p:Pr}{v:PrV}(h:PIn P w p v){g:Nat}(a:¬ P g)(o:Nat)(x:Value):PIn P (w.setCell ⟨g,o,none⟩ x) p v:=h.keep fun b c _=>Below.heap_setCell _ _ _ _ (show b≠g from fun e=>a (by rw[<- e];exact c))
theorem Rep.put{P:Nat->Prop}{w:World}{v:Value}{sz bts:Nat}{cs:List Value}(h:Rep P w v sz bts cs){g:Nat}(a:¬ P g)(o:Nat)(x:Value):Rep P (w.setCell ⟨g,o,none⟩ x) v sz bts cs:=h.keep fun b c _=>Below.heap_setCell _ _ _ _ (show b≠g from fun e=>a (by rw[<- e];exact c))
theorem Alt.put{g:Nat}{w w':World}(h:Alt g w w')(o:Nat)(x:Value):Alt g w (w'.setCell ⟨g,o,none⟩ x):=⟨h.os,h.tape,h.output,(by simp[World.setCell];exact h.size),fun k b a=>(Below.heap_setCell _ _ _ _ a).trans (h.block k b a)⟩
theorem z6j{g:Nat}{p a:Pr}{j:PrV}{P:Nat->Prop}{w d e:World}{c:Nat}(o:c<2){u:Value}{l:List Int}(f:g<w.heap.size)(q:¬ P g)(r:CAt 47 d g (prC a j))(s:PIn (New P w 0) d a j)(k:Alt g w d)(t:Rep (New (New P w 0) d 0) e u 1 8 (inC l))(i:Bl d e)
  (v:p={ a with L:=z3d a.L c { a.L c with done:=l } }) (b:Bool) :
  z3l w g P (p,b) (.returned (J3 b)) (e.setCell ⟨g,66+c * 14+5,none⟩ u):=by
 subst v;have m:¬ New P w 0 g:=z1t q f
 have x:Rep (New P w 0) e u 1 8 (inC l):=t.mono fun b _ h=>by
  rcases h with⟨h,_⟩ | h
  ·exact h
  ·exact .inr (by have:=k.size;omega)
 have n:=(r.over i).set (66+c * 14+5) u;rw[q4w c o l u]at n;exact⟨_,rfl,n,q5Z ((s.over i).put m _ _) c l u (x.put m _ _),(k.trans (Alt.of i)).put _ _⟩
attribute [local go_sem ↓] z0O z1c z0J z0L
theorem z8f(g:Nat)(p:Pr)(v:PrV)(P:Nat->Prop)(w:World)(c:Nat)(h:c<2)(n:Nat)(j:n<6)(b:CAt 47 w g (prC p v))(i:PIn P w p v)(z:¬ P g)(q:z1v (-1) (p.L c).done=true)(r:(p.s.V n).jail=true) :
  Calls prog 111 #[J2 (some ⟨g,0,none⟩),J2 (some ⟨g,66+c * 14,none⟩),J I (n:Int)] w (z3l w g P ({ p with L:=z3d p.L c { p.L c with done:=z1F (p.L c).done n } },true)):=by
 have t:=J6 (z6E (p.L c).done (v.l c).done (New P w 0) w n (((i.z2w (Below.refl _ w) 0).lk c h).done) q (by omega) (by omega))
 have A:=(q0g b j).2.1;rw[r]at A;have x:w.cell? ⟨g,66+c * 14+5,none⟩=some (v.l c).done:=(b.lk h).facts.2.2.2.2.2.1;have d:=b.lt;have B:=J6 (fun (u:Value) (f:World) (C:Rep (New (New P w 0) w 0) f u 1 8 (inC (z1F (p.L c).done n))) (D:Bl w f)=>z6j (p:={ p with L:=z3d p.L c { p.L c with done:=z1F (p.L c).done n } }) h d z b (i.z2w (Below.refl _ w) 0) (Alt.of (Below.refl _ w)) C D rfl true)
 obtain⟨E,F,k,G⟩:=(i.lk c h).done.one';rw[G]at x t;have H:(n:Int)<6:=by omega
 have K:(0:Int)<=(n:Int):=by omega
 have M:=J6 b;clear b i q r;generalize 66+c * 14=o at *;generalize z1F (p.L c).done n=dl at *
 go_enter func111,ntmps111
 go_wp2_with (go_at_call 149;refine t.out.mono ?_;rintro e f⟨u,rfl,m,a⟩;have N:f.cell? ⟨g,o+5,none⟩=some (J1 E F k):=(a.cell (p:=⟨g,o+5,none⟩) d).trans x;have Q:f.frozen? ⟨g,o+5,none⟩=false:=(M.out.over a).free _;obtain⟨R,S,T,rfl⟩:=m.one';have y:=J6 (show _/\_ from⟨m,a⟩);clear m a)
 go_ret;exact B.out _ _ y.out.1 y.out.2
def j0k(F:Nat->Act)(R:Nat->World->Prop)(ex:Exit)(a:Act)(w:World):Prop:=∃ g,ex=Exit.normal/\a=F g/\R g w
theorem q5H{P:Program}{c:Code}{Q:Exit->Act->World->Prop}{a:Act}{w:World}(R:Nat->World->Prop)(F:Nat->Act)(h1:Code.wp P c (j0k F R) a w)(h2:∀ g w',R g w'->Q Exit.normal (F g) w'):Code.wp P c Q a w:=
 Code.wp_mono (fun e b w' h=>by obtain⟨g,rfl,rfl,h⟩:=h;exact h2 g w' h) h1
theorem q1u(g:Nat)(p:Pr)(v:PrV)(P:Nat->Prop)(w:World)(c:Nat)(hc:c<2)(n:Nat)(C:n<6)(z:CAt 47 w g (prC p v))(hp:PIn P w p v)(hg:¬ P g)(hr:z1v (-1) (p.L c).done=true)(K:z0j p.s=true)(hj:(p.s.V n).jail=false)(a1:0<=(p.s.V n).tok)(d1:(p.s.V n).tok<=1125899906842624) :
  Calls prog 111 #[J2 (some ⟨g,0,none⟩),J2 (some ⟨g,66+c * 14,none⟩),.int .i64 (n:Int)] w (z3l w g P (if p.ml<1 then (p,false) else ({ p with ml:=wrap64 (p.ml - q4K (p.s.V n)),s:=z2V p.s n true (p.s.V n).dead,L:=z3d p.L c { p.L c with done:=z1F (p.L c).done n } },true))):=by
 generalize hD:(if p.ml<1 then (p,false) else (_,true):Pr×Bool)=D;have HD:=J6 hD;clear hD;have d3:=(q0g z C).2.1;rw[hj]at d3;have k:=z.lt;have d2:(n:Int)<6:=by omega
 have d4:(0:Int)<=(n:Int):=by omega
 have M:Hid (∀ wx,Bl w wx->wx.cell? ⟨g,94,none⟩=some (.int .i64 p.ml)/\wx.cell? ⟨g,94+1,none⟩=some (.int .i64 p.mn)/\wx.cell? ⟨g,9+n * 5,none⟩=some (.int .i64 (p.s.V n).tok)):=fun wx a=>⟨(z.over a).cell 94,(z.over a).cell 95,(q0g (z.over a) C).1⟩;have a2:Hid (q4K (p.s.V n)=if (p.s.V n).tok / 100<1 then 1 else (p.s.V n).tok / 100):=rfl;generalize q4K (p.s.V n)=pw at *;have HT:=J6 (fun (wx:World)=>Mt.q3X p.ml p.mn pw wx);have HQ:Hid (∀ wx,Bl w wx->z3l w g P (p,false) (.returned (J3 false)) wx):=fun wx a=>⟨v,rfl,z.over a,hp.z2w a 0,Alt.of a⟩;generalize hA:(if p.ml<1 then p.ml else wrap64 (p.ml - pw))=ml' at *;generalize G:(if p.ml<1 then false else true)=may at *;generalize (p.s.V n).tok=tk at *;have hq:IntKind.i64.wrap (tk.tdiv 100)=tk / 100:=by rw[Int.tdiv_eq_ediv_of_nonneg a1];exact z5V (by omega) (by omega)
 go_enter func111,ntmps111
 go_upto_region 3 with fail
 have N:Hid (Bl w (w.alloc (J5 #[.int .i64 0,.int .i64 0] 44))):=znw w _;have A:=J6 N.out.drew;have Q:(if tk / 100<1 then 1 else tk / 100)=pw:=a2.out.symm;have R:Hid (CAt 44 (w.alloc (J5 #[.int .i64 0,.int .i64 0] 44)).drew w.heap.size #[.int .i64 0,.int .i64 0]):=CAt.new 44 w _;apply q5H (fun H w'=>CAt 44 w' H #[.int .i64 ml',.int .i64 p.mn]/\w.heap.size<=H/\Bl w w')
 ·refine wp_region_noPanic ?_;have a:=Below.refl w.heap.size w
  go_region_held3 (fun wx=>wx.cell? ⟨g,94,none⟩=some (.int .i64 p.ml)/\wx.cell? ⟨g,94+1,none⟩=some (.int .i64 p.mn)/\wx.cell? ⟨g,9+n * 5,none⟩=some (.int .i64 tk)) ((refine M.out _ ?_;first | with_reducible exact a | with_reducible exact a.drew | with_reducible exact a.alloc a.size _ | with_reducible exact (a.alloc a.size _).drew | with_reducible exact a.drew.alloc a.drew.size _ | exact (a.setCell (Nat.le_refl _) _).setCell (Nat.le_refl _) _ | exact ((a.alloc a.size _).setCell a.size _).setCell a.size _)) (first
   | (go_at_call 147;refine (HT.out w.drew).mono ?_;rintro e wb⟨rfl,b⟩;have a:=(Below.refl w.heap.size w).drew.trans b;have a3:True:=trivial;clear b;dsimp only)
   | (go_at_call 147;refine (HT.out (w.alloc (J5 #[.int .i64 0,.int .i64 0] 44)).drew).mono ?_;rintro e wb⟨rfl,b⟩;have a:=zbt A.out b;have d:=J6 (R.out.over b);have z0:=d.out.cell 0;have z1:wb.cell? ⟨w.heap.size,0+1,none⟩=_:=d.out.cell 1;have d5:=d.out.free 0;have d6:=d.out.free (0+1);clear b;dsimp only))
  all_goals first
   | (have _m:=a3;obtain⟨E,f⟩:∃ E,E=wb.heap.size:=⟨_,rfl⟩;rw[<- f];exact NoPanic.normal ⟨E,rfl,rfl,by subst f;exact⟨CAt.new _ _ _,a.size,a.alloc a.size _⟩⟩)
   | (obtain⟨E,f⟩:∃ E,E=w.heap.size:=⟨_,rfl⟩;rw[<- f];exact NoPanic.normal ⟨E,rfl,rfl,by subst f;exact⟨(d.out.set 0 _).set 1 _,Nat.le_refl _,(a.setCell (Nat.le_refl _) _).setCell (Nat.le_refl _) _⟩⟩)
 rintro H B⟨M3,d7,B3⟩;have h:=J6 B3;have a4:=J6 M3;have m0:B.cell? ⟨H,0,none⟩=some (.int .i64 ml'):=M3.cell 0;have m1:B.cell? ⟨H,0+1,none⟩=some (.int .i64 p.mn):=M3.cell 1;clear N A R Q HT M d3 B3 M3;simp only[Exit.then];apply_assumption
 by_cases i:p.ml<1
 ·rw[if_pos i]at G;subst G;have m:=J6 (HD.out.symm.trans (if_pos i));clear HD;go_wp2;go_ret;rw[m.out];exact HQ.out _ h.out
 ·rw[if_neg i]at hA G;subst G;have m:=J6 (HD.out.symm.trans (if_neg i));clear HD HQ;have F:=z.over h.out;have a5:B.cell? ⟨g,94,none⟩=some (.int .i64 p.ml):=F.cell 94;have a6:B.cell? ⟨g,94+1,none⟩=some (.int .i64 p.mn):=F.cell 95;have a7:=F.free 94;have a8:=F.free (94+1);have c8:=F.lt;have c9:¬ H=g:=by omega
  have a9:=J6 hp;have b4:=J6 hr;have r:=J6 hg;have b5:=J6 K;have b6:=J6 hj;have S:=J6 F;have T:=J6 hA;clear z hp hr K hj F hA hg i
  go_upto_region 7 with fail
  have C4:CAt 47 ((B.setCell ⟨g,94,none⟩ (.int .i64 ml')).setCell ⟨g,95,none⟩ (.int .i64 p.mn)) g (prC { p with ml:=ml' } v):=(S.out.set 94 _).set 95 _
  have A4:Alt g w ((B.setCell ⟨g,94,none⟩ (.int .i64 ml')).setCell ⟨g,95,none⟩ (.int .i64 p.mn)):=((Alt.of (g:=g) h.out).put 94 _).put 95 _
  have P4:PIn (New P w 0) ((B.setCell ⟨g,94,none⟩ (.int .i64 ml')).setCell ⟨g,95,none⟩ (.int .i64 p.mn)) { p with ml:=ml' } v:=by
   have:=((a9.out.z2w h.out 0).put (z1t r.out k) 94 (.int .i64 ml')).put (z1t r.out k) 95 (.int .i64 p.mn);exact⟨this.ws,this.set,this.lk,this.q⟩
  clear a5 a6 a7 a8 m0 m1 a4 S h;generalize (B.setCell ⟨g,94,none⟩ (.int .i64 ml')).setCell ⟨g,95,none⟩ (.int .i64 p.mn)=w4 at *
  have U:z7B p.s (n:Int)=(z2V p.s n true (p.s.V n).dead,0):=by
   unfold z7B;rw[if_pos (z1X b5.out C),Int.toNat_natCast,if_neg (by rw[b6.out];simp)]
  have t:=q8i P4.ws (n:Int);dsimp only at t;rw[U]at t;have X:=J6 t;have m4:=z1f C4;have b7:Hid ((z2V p.s n true (p.s.V n).dead).W=p.s.W):=rfl;generalize Y:z2V p.s n true (p.s.V n).dead=s1 at *;have b9:=J6 Y;have d0:=C4.lt;have Z:=z3h s1 P4.ws.one';have H4:=J6 (show _/\_/\_ from⟨C4,P4,A4⟩);clear C4 P4 A4 t U Y
  go_upto_region 8 with (go_at_call 148;refine X.out.mono ?_;rintro e w5⟨rfl,j⟩;clear m4;have c4:=z1x (H4.out.1.over j) (z0c _ _) (z0d s1 v.ws) Z)
  have C6:=(H4.out.1.over j).z0I s1 v.ws;have A6:=(H4.out.2.2.trans (Alt.of j)).sets (stC s1 v.ws).toList 2;have P6:=(H4.out.2.1.over j).sets (g:=g) (z1t r.out k) 2 (stC s1 v.ws).toList;have x:PIn (New P w 0) (w5.setCells g 2 (stC s1 v.ws).toList) { p with ml:=ml',s:=s1 } v:=⟨by rw[show ({ p with ml:=ml',s:=s1 }:Pr).s.W=p.s.W from b7.out];exact P6.ws,P6.set,P6.lk,P6.q⟩
  clear c4 j X H4 P6;generalize w5.setCells g 2 (stC s1 v.ws).toList=w6 at *;have HW:=J6 (z6E (p.L c).done (v.l c).done (New P w 0) w6 n ((x.lk c hc).done) b4.out (by omega) (by omega))
  have q5:w6.cell? ⟨g,66+c * 14+5,none⟩=some (v.l c).done:=(C6.lk hc).facts.2.2.2.2.2.1;obtain⟨Ad,nd,c5,ed⟩:=(x.lk c hc).done.one';rw[ed]at q5 HW;have a0:=C6.lt;have HE:=J6 (fun (u:Value) (w2:World) (hU:Rep (New (New P w 0) w6 0) w2 u 1 8 (inC (z1F (p.L c).done n))) (G:Bl w6 w2)=>z6j (p:={ p with ml:=ml',s:=s1,L:=z3d p.L c { p.L c with done:=z1F (p.L c).done n } }) hc k r.out C6 x A6 hU G rfl true)
  have c6:=J6 C6;have c7:Hid (D=({ p with ml:=ml',s:=s1,L:=z3d p.L c { p.L c with done:=z1F (p.L c).done n } },true)):=by rw[Hid,m.out,T.out]
  clear m b9 T C6 x A6 ed;generalize 66+c * 14=o at *;generalize z1F (p.L c).done n=dl at *
  go_wp2_with (go_at_call 149;refine HW.out.mono ?_;rintro e w7⟨u,rfl,U2,y⟩;have q6:w7.cell? ⟨g,o+5,none⟩=some (J1 Ad nd c5):=(y.cell (p:=⟨g,o+5,none⟩) a0).trans q5;have fz:w7.frozen? ⟨g,o+5,none⟩=false:=(c6.out.over y).free _;obtain⟨Au,nu,Cu,rfl⟩:=U2.one';have HU:=J6 (show _/\_ from⟨U2,y⟩);clear U2 y)
  go_ret;rw[c7.out];exact HE.out _ _ HU.out.1 HU.out.2
theorem q9j{s:St}(a:z0j s=true){n:Nat}(b:n<6):0<=(s.V n).tok/\(s.V n).tok<=1125899906842624:=((z3a _).1 (((z0S s).1 a).2.2.2.2.2.1 n b).1).1
theorem q3r(g:Nat)(p:Pr)(v:PrV)(P:Nat->Prop)(w:World)(c:Nat)(d:c<2)(x:Pkt)(e:CAt 47 w g (prC p v))(f:PIn P w p v)(h:¬ P g)(m:x.k=3)(i:z1v (-1) (p.L c).done=true)(b:z0j p.s=true)(h0:0<=x.v)(o:x.v<6) :
  Calls prog 111 #[J2 (some ⟨g,0,none⟩),J2 (some ⟨g,66+c * 14,none⟩),J I x.v] w (z3l w g P (z0y p c x)):=by
 obtain⟨n,l,a⟩:∃ n:Nat,x.v=(n:Int)/\n<6:=⟨x.v.toNat,by omega,by omega⟩
 unfold z0y;rw[if_neg (by omega),if_neg (by omega),l,Int.toNat_natCast]
 cases j:(p.s.V n).jail
 ·rw[if_neg (by simp)]
  exact q1u g p v P w c d n a e f h i b j (q9j b a).1 (q9j b a).2
 ·rw[if_pos rfl];exact z8f g p v P w c d n a e f h i j
end Pv
namespace Pv
open Go.RowKit
def j0x(F:Option Addr->Nat->Nat->Nat->Act)(R:Option Addr->Nat->Nat->Nat->World->Prop)(ex:Exit)(a:Act)(w:World):Prop:=∃ A n C g,ex=Exit.normal/\a=F A n C g/\R A n C g w
theorem q5k{P:Program}{c:Code}{Q:Exit->Act->World->Prop}{a:Act}{w:World}(R:Option Addr->Nat->Nat->Nat->World->Prop)(F:Option Addr->Nat->Nat->Nat->Act)(h1:Code.wp P c (j0x F R) a w)(h2:∀ A n C g w',R A n C g w'->Q Exit.normal (F A n C g) w'):Code.wp P c Q a w:=
 Code.wp_mono (fun e b w' h=>by obtain⟨A,n,C,g,rfl,rfl,h⟩:=h;exact h2 A n C g w' h) h1
def z9B(a v:Value):Sem Unit:=Instr.storeAt 49 a v
theorem z4f(a v:Value):Instr.storeAt 49 a v=z9B a v:=rfl
def z5E(a v:Value):Sem Unit:=Instr.storeAt 37 a v
theorem z4t(a v:Value):Instr.storeAt 37 a v=z5E a v:=rfl
theorem q6Y:(prog.info? 49).map (·.size)=some 6:=by kernel_rfl
theorem z7q:(prog.info? 37).map (·.size)=some 4:=by kernel_rfl
def Z6:Array Value:=#[J I 0,J I 0,J I 0,J I 0,J1 none 0 0,J1 none 0 0]
def Z4:Array Value:=#[J1 none 0 0,J1 none 0 0,J I 0,J3 false]
theorem z9C{w:World}{g:Nat}{a cs:Array Value}(h:CAt 49 w g a)(c:a.size=6)(b:cs.size=6)(h1:cs.all (·.oneCell')=true):(z9B (J2 (some ⟨g,0,none⟩)) (J4 cs)).run prog w=.ok () (w.setCells g 0 cs.toList):=
 run_storeAt_mid (P:=prog) w g 0 49 cs (h.there 0 _ (by rw[c,b];omega)) (by rw[q6Y,b]) h1
theorem q0n{w:World}{g:Nat}{a cs:Array Value}(h:CAt 37 w g a)(c:a.size=4)(b:cs.size=4)(h1:cs.all (·.oneCell')=true):(z5E (J2 (some ⟨g,0,none⟩)) (J4 cs)).run prog w=.ok () (w.setCells g 0 cs.toList):=
 run_storeAt_mid (P:=prog) w g 0 37 cs (h.there 0 _ (by rw[c,b];omega)) (by rw[z7q,b]) h1
structure Tds(w1:World)(cs:Array Value)(dl:List (Int×Int))(u:Value)(g4:Nat)(w5:World):Prop where
 cat:CAt 49 w5 g4 cs
 rep:Rep (fun b=>w1.heap.size<=b/\b≠g4) w5 u 2 16 (pwC dl)
 bel:Bl w1 w5
 le:w1.heap.size<=g4
theorem q8u{w1 w0 a:World}{cs:Array Value}{dl:List (Int×Int)}{u:Value}(d:cs.size=6)(U:Rep (fun b=>w0.heap.size<=b) a u 2 16 (pwC dl))(h0:w1.heap.size<=w0.heap.size)(c:Bl w1 a):Tds w1 cs dl u a.heap.size ((a.alloc (J5 Z6 49)).setCells a.heap.size 0 cs.toList):=by
 have e:Bl a (a.alloc (J5 Z6 49)):=znw a _;have f:Rep (fun b=>w1.heap.size<=b/\b≠a.heap.size) a u 2 16 (pwC dl):=U.mono fun b hl h=>⟨Nat.le_trans h0 h,by omega⟩
 exact⟨(CAt.new 49 a Z6).z0C (by rw[d];rfl),(f.over e).sets (fun h=>h.2 rfl) 0 _,z0b c.size _ _ _ (c.alloc c.size _),c.size⟩
theorem q7k{w1 ws a:World}{cs:Array Value}{dl:List (Int×Int)}{u:Value}(c:cs.size=6)(U:Rep (fun b=>ws.heap.size<=b) a u 2 16 (pwC dl))(h0:w1.heap.size+1<=ws.heap.size)(d:Bl w1 a)(e:CAt 49 a w1.heap.size Z6):Tds w1 cs dl u w1.heap.size (a.setCells w1.heap.size 0 cs.toList):=by
 have f:Rep (fun b=>w1.heap.size<=b/\b≠w1.heap.size) a u 2 16 (pwC dl):=U.mono fun b hl h=>by have g:ws.heap.size<=b:=h;exact⟨by omega,by omega⟩
 exact⟨e.z0C (by rw[c];rfl),f.sets (fun h=>h.2 rfl) 0 _,z0b (Nat.le_refl _) _ _ _ d,Nat.le_refl _⟩
theorem q6O(a b:Int){u:Value}(h:∃ A n C,u=J1 A n C)(A:Option Addr)(n C:Nat):(#[J I a,J I b,J I 0,J I 0,u,J1 A n C]:Array Value).all (·.oneCell')=true:=by
 obtain⟨A',d,C',rfl⟩:=h
 first | (simp[Value.oneCell'];done) | (rw[Array.all_eq_true_iff_forall_mem];intro x c;simp at c;rcases c with rfl | rfl | rfl | rfl | rfl | rfl <;> rfl)
theorem q5e{w1 w0 a:World}{cs:Array Value}{dl:List (Int×Int)}{u:Value}(c:cs.size=6)(h1:cs.all (·.oneCell')=true)(U:Rep (fun b=>w0.heap.size<=b) a u 2 16 (pwC dl))(h0:w1.heap.size<=w0.heap.size)(e:Bl w1 a):∃ d,(z9B (J2 (some ⟨a.heap.size,0,none⟩)) (J4 cs)).run prog (a.alloc (J5 Z6 49))=.ok () d/\Tds w1 cs dl u a.heap.size d:=
 ⟨_,z9C (CAt.new 49 a Z6) rfl c h1,q8u c U h0 e⟩
theorem q5o{w1 ws a:World}{cs:Array Value}{dl:List (Int×Int)}{u:Value}(c:cs.size=6)(h1:cs.all (·.oneCell')=true)(U:Rep (fun b=>ws.heap.size<=b) a u 2 16 (pwC dl))(h0:w1.heap.size+1<=ws.heap.size)(f:Bl w1 a)(d:CAt 49 a w1.heap.size Z6):∃ e,(z9B (J2 (some ⟨w1.heap.size,0,none⟩)) (J4 cs)).run prog a=.ok () e/\Tds w1 cs dl u w1.heap.size e:=
 ⟨_,z9C d rfl c h1,q7k c U h0 f d⟩
theorem q3E(p:Pr)(v:PrV)(k:Nat)(b:k<2):∃ a c:List Value,a.length=66+k * 14/\prC p v=(a ++ (lkL (p.L k) (v.l k) ++ c)).toArray/\∀ y x,prC { p with L:=z3d p.L k y } (v.upd k x)=(a ++ (lkL y x ++ c)).toArray:=by
 have h0:([J I p.h,J I p.t] ++ ((stC p.s v.ws).toList ++ [v.set]):List Value).length=66:=by simp[z0d]
 match k,b with
 | 0,_ =>
  refine⟨[J I p.h,J I p.t] ++ ((stC p.s v.ws).toList ++ [v.set]),lkL (p.L 1) (v.l 1) ++ [J I p.ml,J I p.mn,v.q],h0,?_,fun y x=>?_⟩
  ·simp[prC]
  ·simp[prC,PrV.upd,z3d]
 | 1,_ =>
  refine⟨[J I p.h,J I p.t] ++ ((stC p.s v.ws).toList ++ [v.set]) ++ lkL (p.L 0) (v.l 0),[J I p.ml,J I p.mn,v.q],?_,?_,fun y x=>?_⟩
  ·rw[List.length_append,h0];rfl
  ·simp[prC]
  ·simp[prC,PrV.upd,z3d]
theorem q3a{p:Pr}{v:PrV}(k:Nat)(d:k<2)(x:Ln.Line)(l:List (Int×Int))(T S U:Value) :
  (((((((prC p v).setIfInBounds (66+k * 14+6) S).setIfInBounds (66+k * 14+7) U).setIfInBounds (66+k * 14+8) (J I x.g)).setIfInBounds (66+k * 14+9) (J3 x.cl)).setIfInBounds (66+k * 14+3) T).setIfInBounds (66+k * 14+4) (J3 false)).setIfInBounds (66+k * 14+5) (J1 none 0 0)
   = prC { p with L:=z3d p.L k { p.L k with out:=x,told:=l,fresh:=false,done:=[] } } (v.upd k ⟨T,J1 none 0 0,S,U⟩):=by
 obtain⟨a,c,b,h1,h2⟩:=q3E p v k d;rw[h1,h2,set_mid _ _ _ _ _ _ b (by show 6<14;omega),set_mid _ _ _ _ _ _ b (by simp[lkL]),set_mid _ _ _ _ _ _ b (by simp[lkL]),set_mid _ _ _ _ _ _ b (by simp[lkL]),set_mid _ _ _ _ _ _ b (by simp[lkL]),set_mid _ _ _ _ _ _ b (by simp[lkL]),set_mid _ _ _ _ _ _ b (by simp[lkL])]
 rfl
theorem q4x{P:Nat->Prop}{w:World}{p:Pr}{v:PrV}(h:PIn P w p v)(k:Nat)(x:Ln.Line)(T S U:Value)(h1:Rep P w T 2 16 (pwC p.set))(h2:z1I P w S 1 16 (txC x.S))(h3:z1I P w U 1 8 (inC x.D)) :
  PIn P w { p with L:=z3d p.L k { p.L k with out:=x,told:=p.set,fresh:=false,done:=[] } } (v.upd k ⟨T,J1 none 0 0,S,U⟩):=by
 refine⟨h.ws,h.set,fun c a=>?_,h.q⟩
 show z5Z P w (if c=k then _ else p.L c) (if c=k then _ else v.l c)
 by_cases e:c=k
 ·rw[if_pos e,if_pos e];exact⟨h1,Rep.nil _ _ _ _,h2,h3⟩
 ·rw[if_neg e,if_neg e];exact h.lk c a
noncomputable def q8G:Code:=z8O [1,1] (f32.body.getD .skip)
noncomputable def q9B:Code:=z8O [1,1,1,1,1] (f32.body.getD .skip)
end Pv
namespace Pv
open Go.RowKit
attribute [local go_sem ↓] z4f z4t
set_option maxRecDepth 1000000 in
theorem q4Y(g:Nat)(p D:Pr)(v:PrV)(P:Nat->Prop)(w w5:World)(c o g7:Nat)(x:Ln.Line)(s1 s2:Value)(E1:Int)(Q:c<2)(hC:CAt 47 w g (prC p v))(hp:PIn P w p v)(hg:¬ P g)(F:Hid (o=66+c * 14))(G:Hid (Bl w w5))(m9:w.heap.size<=g7)(d:Hid (CAt 37 w5 g7 #[s1,s2,.int .i64 x.g,J3 x.cl]))(r:Hid (z1I (fun b=>New P w 0 b/\b≠g7) w5 s1 1 16 (txC x.S)))(s:Hid (z1I (fun b=>New P w 0 b/\b≠g7) w5 s2 1 8 (inC x.D)))
  (R:Hid (D=if E1=0 then { p with L:=z3d p.L c { p.L c with out:=x,told:=p.set,fresh:=false,done:=[] } } else p)) (v2 v3 v4 v5 v8 v9 a1 a2 a3 a4 a5 a6 a7 a8 a9 b4 b5 b6 b7 b9 c4 c5 c6 c7 c8 c9 d0 d1 d2 d3 d4 d5 d6 d7 d8 d9 e0 e1 e2 e3 e4 e5 e6 e7 e8 e9 g0 g1 g2 g3 g5 g6 g8 g9 h4 h5 h6 h7 h8 h9 i0 i1 i2 i3 i4 i5 i6 i7 i8 i9 j0 j1 j2 j3 j4 j5 j6 j7 j8 j9 k4 k5 k6 k7 k8 k9 l4 l5 l6 l7 l8 l9 m0 m1:Value) :
  Code.wp prog q9B (bodyPost prog f32 (Turns w g P D)) ⟨List.toArray ((J2 (some ⟨g,0,none⟩)) :: (J2 (some ⟨g,o,none⟩)) :: v2 :: v3 :: v4 :: v5 :: (.int .i64 E1) :: (J2 (some ⟨g7,0,none⟩)) :: v8 :: v9 :: a1 :: a2 :: a3 :: a4 :: a5 :: a6 :: a7 :: a8 :: a9 :: b4 :: b5 :: b6 :: b7 :: b9 :: c4 :: c5 :: c6 :: c7 :: c8 :: c9 :: d0 :: d1 :: d2 :: d3 :: d4 :: d5 :: d6 :: d7 :: d8 :: d9 :: e0 :: e1 :: e2 :: e3 :: e4 :: e5 :: e6 :: e7 :: e8 :: e9 :: g0 :: g1 :: g2 :: g3 :: g5 :: g6 :: g8 :: g9 :: h4 :: h5 :: h6 :: h7 :: h8 :: h9 :: i0 :: i1 :: i2 :: i3 :: i4 :: i5 :: i6 :: i7 :: i8 :: i9 :: j0 :: j1 :: j2 :: j3 :: j4 :: j5 :: j6 :: j7 :: j8 :: j9 :: k4 :: k5 :: k6 :: k7 :: k8 :: k9 :: l4 :: l5 :: l6 :: l7 :: l8 :: l9 :: m0 :: m1 :: []),[]⟩ w5:=by
 conv=>arg 2;whnf
 have T:=J6 hp;have HC:=J6 hC;have m2:=hC.lt;obtain⟨A1,f,i,B1,rfl,-,-⟩:=id r.out;obtain⟨A2,m,n,B2,rfl,-,-⟩:=id s.out
 by_cases hE:E1=0
 rotate_left
 ·have hq:Hid (D=p):=R.out.trans (if_neg hE);have n0:(E1 != 0)=true:=by simpa using hE
  clear R r s d hC hp;go_wp2;go_end0;rw[hq.out];exact⟨v,rfl,HC.out.over G.out,T.out.z2w G.out 0,Alt.of G.out⟩
 subst hE;replace R:=J6 (R.out.trans (if_pos rfl));have t:=HC.out.over G.out;have n3:¬ g7=g:=by omega
 have hf:=(t.lk Q).facts;rw[<- F.out]at hf;obtain⟨-,-,-,f3,f4,f5,f6,f7,f8,f9⟩:=hf;have k0:w5.cell? ⟨g7,0,none⟩=_:=d.out.cell 0;have k1:w5.cell? ⟨g7,0+1,none⟩=_:=d.out.cell 1;have k2:w5.cell? ⟨g7,0+2,none⟩=_:=d.out.cell 2;have k3:w5.cell? ⟨g7,0+3,none⟩=_:=d.out.cell 3;have z6:=t.free (o+6);have z7:=t.free (o+6+1);have z8:=t.free (o+6+2);have z9:=t.free (o+6+3);have U:=J6 t;clear hC hp t
 have sN:(z5E (J2 (some ⟨g,o+6,none⟩)) (J4 #[J1 A1 f i,J1 A2 m n,.int .i64 x.g,J3 x.cl])).run prog w5=.ok () (w5.setCells g (o+6) [J1 A1 f i,J1 A2 m n,.int .i64 x.g,J3 x.cl]):=
  run_storeAt_mid (P:=prog) w5 g (o+6) 37 #[J1 A1 f i,J1 A2 m n,.int .i64 x.g,J3 x.cl] (U.out.there (o+6) 4 (by rw[z0c,F.out];omega)) (by rw[z7q];rfl) (by simp[Value.oneCell'])
 go_upto_region 7 with fail
 have V:CAt 47 (w5.setCells g (o+6) [J1 A1 f i,J1 A2 m n,.int .i64 x.g,J3 x.cl]) g (((((prC p v).setIfInBounds (o+6) (J1 A1 f i)).setIfInBounds (o+7) (J1 A2 m n)).setIfInBounds (o+8) (.int .i64 x.g)).setIfInBounds (o+9) (J3 x.cl)):=(((U.out.set (o+6) _).set (o+7) _).set (o+8) _).set (o+9) _;have W:¬ New P w 0 g:=z1t hg m2;have X:Hid (Alt g w (w5.setCells g (o+6) [J1 A1 f i,J1 A2 m n,.int .i64 x.g,J3 x.cl])):=(Alt.of G.out).sets _ _;have y:Hid (∀ b,b≠g->(w5.setCells g (o+6) [J1 A1 f i,J1 A2 m n,.int .i64 x.g,J3 x.cl]).heap[b]?=w5.heap[b]?):=fun b a=>z0f a _ _ _;have n4:Hid (w5.heap.size=(w5.setCells g (o+6) [J1 A1 f i,J1 A2 m n,.int .i64 x.g,J3 x.cl]).heap.size):=by show _=_;simp[World.setCells,World.setCell]
 clear f6 f7 f8 f9 k0 k1 k2 k3 z6 z7 z8 z9 sN f3 f4 f5;generalize w5.setCells g (o+6) [J1 A1 f i,J1 A2 m n,.int .i64 x.g,J3 x.cl]=w6 at *;have Y:=V.lt;have P6:PIn (New P w 0) w6 p v:=(T.out.z2w G.out 0).keep fun b a _=>y.out b (fun e=>W (by rw[<- e];exact a))
 have A:=J6 (q1N p.set v.set (New P w 0) w6 P6.set)
 have m3:w6.cell? ⟨g,65,none⟩=some v.set:=by
  rw[V.cell 65];simp only[Array.getElem?_setIfInBounds];have:=F.out;rw[if_neg (by omega),if_neg (by omega),if_neg (by omega),if_neg (by omega)]
  rfl
 obtain⟨At,nt,Ct,et⟩:=(T.out.lk c Q).told.one';obtain⟨Ad,nd,m4,ed⟩:=(T.out.lk c Q).done.one'
 have Z:Hid (∀ wx,Bl w6 wx->wx.cell? ⟨g,o+3,none⟩=some (J1 At nt Ct)/\wx.cell? ⟨g,o+4,none⟩=some (J3 (p.L c).fresh)/\wx.cell? ⟨g,o+5,none⟩=some (J1 Ad nd m4)/\∀ k,wx.frozen? ⟨g,k,none⟩=false):=fun wx a=>by
  have C:=V.over a
  have hl:∀ j,j<6->∀ z,(lkL (p.L c) (v.l c))[j]?=some z->wx.cell? ⟨g,o+j,none⟩=some z:=fun j hj z hz=>by
   rw[C.cell (o+j)];simp only[Array.getElem?_setIfInBounds];rw[if_neg (by omega),if_neg (by omega),if_neg (by omega),if_neg (by omega),F.out,z2E c Q j (by omega),hz]
  exact⟨hl 3 (by omega) _ (by rw[<- et];rfl),hl 4 (by omega) _ rfl,hl 5 (by omega) _ (by rw[<- ed];rfl),fun k=>C.free k⟩
 have H6:=J6 (show _/\_ from⟨V,P6⟩);clear V P6 et ed;obtain⟨As,ns,Cs,es⟩:=T.out.set.one';rw[es]at m3 A;clear es
 go_upto_region 8 with (go_at_call 73;refine A.out.mono ?_;rintro e B⟨u,rfl,U7,q⟩;obtain⟨H,K,M,rfl⟩:=U7.one';obtain⟨q3,q4,q5,qz⟩:=Z.out B q;have m8:g<B.heap.size:=Nat.lt_of_lt_of_le Y q.size;have m5:=qz (o+3);have N:=J6 (show _/\_ from⟨U7,q⟩);have a0:=J6 qz;clear U7 q qz)
 have m6:=a0.out (o+4);have m7:=a0.out (o+5);go_wp2;go_end0;have e:=F.out;clear F q3 q4 q5 m5 m6 m7 Z A;subst e;rw[R.out];have hk:∀ b,New P w 0 b->b≠g:=fun b a e=>W (by rw[<- e];exact a)
 have E:∀ b,New P w 0 b->(((B.setCell ⟨g,66+c * 14+3,none⟩ (J1 H K M)).setCell ⟨g,66+c * 14+4,none⟩ (J3 false)).setCell ⟨g,66+c * 14+5,none⟩ (J1 none 0 0)).heap[b]?=B.heap[b]?:=fun b a=>(Below.heap_setCell _ _ _ _ (hk b a)).trans ((Below.heap_setCell _ _ _ _ (hk b a)).trans (Below.heap_setCell _ _ _ _ (hk b a)));have C9:=(((H6.out.1.over N.out.2).set (66+c * 14+3) (J1 H K M)).set (66+c * 14+4) (J3 false)).set (66+c * 14+5) (J1 none 0 0);rw[q3a c Q x p.set (J1 H K M) (J1 A1 f i) (J1 A2 m n)]at C9;have n5:=X.out.size;have R1:=(((r.out.mono (P':=New P w 0) fun b _ h=>h.1).keep (w':=w6) fun b a _=>y.out b (hk b a)).over N.out.2).keep (w':=((B.setCell ⟨g,66+c * 14+3,none⟩ (J1 H K M)).setCell ⟨g,66+c * 14+4,none⟩ (J3 false)).setCell ⟨g,66+c * 14+5,none⟩ (J1 none 0 0)) fun b a _=>E b a;have R2:=(((s.out.mono (P':=New P w 0) fun b _ h=>h.1).keep (w':=w6) fun b a _=>y.out b (hk b a)).over N.out.2).keep (w':=((B.setCell ⟨g,66+c * 14+3,none⟩ (J1 H K M)).setCell ⟨g,66+c * 14+4,none⟩ (J3 false)).setCell ⟨g,66+c * 14+5,none⟩ (J1 none 0 0)) fun b a _=>E b a;have T9:=(N.out.1.mono (P':=New P w 0) fun b _ h=>.inr (by omega)).keep (w':=((B.setCell ⟨g,66+c * 14+3,none⟩ (J1 H K M)).setCell ⟨g,66+c * 14+4,none⟩ (J3 false)).setCell ⟨g,66+c * 14+5,none⟩ (J1 none 0 0)) fun b a _=>E b a
 exact⟨_,rfl,C9,q4x ((((H6.out.2.over N.out.2).put W _ _).put W _ _).put W _ _) c x _ _ _ T9 R1 R2,(((X.out.trans (Alt.of N.out.2)).put _ _).put _ _).put _ _⟩
end Pv
namespace Pv
open Go.RowKit
structure Sds(P:Nat->Prop)(w w6:World)(x:Ln.Line)(u1 u2:Value)(g7:Nat)(w':World):Prop where
 cat:CAt 37 w' g7 #[u1,u2,J I x.g,J3 x.cl]
 r1:z1I (fun b=>New P w 0 b/\b≠g7) w' u1 1 16 (txC x.S)
 r2:z1I (fun b=>New P w 0 b/\b≠g7) w' u2 1 8 (inC x.D)
 bel:Bl w6 w'
 le:w6.heap.size<=g7
theorem z1I.sets{P:Nat->Prop}{w:World}{v:Value}{sz bts:Nat}{cs:List Value}(h:z1I P w v sz bts cs){g:Nat}(c:¬ P g)(o:Nat)(a:List Value):z1I P (w.setCells g o a) v sz bts cs:=h.keep fun b d _=>z0f (show b≠g from fun e=>c (by rw[<- e];exact d)) a o w
theorem z1I.one'{P:Nat->Prop}{w:World}{v:Value}{sz bts:Nat}{cs:List Value}(h:z1I P w v sz bts cs):∃ A n C,v=J1 A n C:=by
 obtain⟨A,n,C,-,rfl,-⟩:=h;exact⟨A,n,C,rfl⟩
theorem q6y{u1 u2:Value}(h1:∃ A n C,u1=J1 A n C)(h2:∃ A n C,u2=J1 A n C)(a:Int)(b:Bool):(#[u1,u2,J I a,J3 b]:Array Value).all (·.oneCell')=true:=by
 obtain⟨A,n,C,rfl⟩:=h1;obtain⟨A',c,C',rfl⟩:=h2
 simp[Value.oneCell']
theorem z8S{P:Nat->Prop}{w w6 w0 a:World}{x:Ln.Line}{u1 u2:Value}(j:w.heap.size<=w6.heap.size)(h0:w6.heap.size<=w0.heap.size)(d:z1I (New (fun b=>P b/\b<w.heap.size) w0 0) a u1 1 16 (txC x.S))(e:z1I (New (fun b=>P b/\b<w.heap.size) w0 0) a u2 1 8 (inC x.D))(c:Bl w6 a) :
  ∃ f,(z5E (J2 (some ⟨a.heap.size,0,none⟩)) (J4 #[u1,u2,J I x.g,J3 x.cl])).run prog (a.alloc (J5 Z4 37))=.ok () f/\Sds P w w6 x u1 u2 a.heap.size f:=by
 have i:Bl a (a.alloc (J5 Z4 37)):=znw a _
 have m:∀ b,b<a.heap.size->New (fun b=>P b/\b<w.heap.size) w0 0 b->New P w 0 b/\b≠a.heap.size:=fun b hl h=>by
  refine⟨?_,by omega⟩
  rcases h with⟨h,_⟩ | h
  ·exact .inl h
  ·exact .inr (by omega)
 refine⟨_,q0n (CAt.new 37 a Z4) rfl rfl (q6y d.one' e.one' _ _),(CAt.new 37 a Z4).z0C rfl,((d.mono m).over i).sets (fun h=>h.2 rfl) _ _,((e.mono m).over i).sets (fun h=>h.2 rfl) _ _,z0b c.size _ _ _ (c.alloc c.size _),c.size⟩
theorem q7C{P:Nat->Prop}{w w6 w0 a:World}{x:Ln.Line}{u1 u2:Value}(j:w.heap.size<=w6.heap.size)(h0:w6.heap.size+1<=w0.heap.size)(c:z1I (New (fun b=>P b/\b<w.heap.size) w0 0) a u1 1 16 (txC x.S))(d:z1I (New (fun b=>P b/\b<w.heap.size) w0 0) a u2 1 8 (inC x.D))(i:Bl w6 a)(e:CAt 37 a w6.heap.size Z4) :
  ∃ f,(z5E (J2 (some ⟨w6.heap.size,0,none⟩)) (J4 #[u1,u2,J I x.g,J3 x.cl])).run prog a=.ok () f/\Sds P w w6 x u1 u2 w6.heap.size f:=by
 have m:∀ b,b<a.heap.size->New (fun b=>P b/\b<w.heap.size) w0 0 b->New P w 0 b/\b≠w6.heap.size:=fun b hl h=>by
  rcases h with⟨h,_⟩ | h
  ·exact⟨.inl h,by have:=h.2;omega⟩
  ·exact⟨.inr (by omega),by omega⟩
 refine⟨_,q0n e rfl rfl (q6y c.one' d.one' _ _),e.z0C rfl,(c.mono m).sets (fun h=>h.2 rfl) _ _,(d.mono m).sets (fun h=>h.2 rfl) _ _,z0b (Nat.le_refl _) _ _ _ i,Nat.le_refl _⟩
def j0b(F:Option Addr->Nat->Nat->Option Addr->Nat->Nat->Nat->Act)(R:Option Addr->Nat->Nat->Option Addr->Nat->Nat->Nat->World->Prop)(ex:Exit)(a:Act)(w:World):Prop:=∃ A n C A' b C' g,ex=Exit.normal/\a=F A n C A' b C' g/\R A n C A' b C' g w
theorem q6p{P:Program}{c:Code}{Q:Exit->Act->World->Prop}{a:Act}{w:World}(R:Option Addr->Nat->Nat->Option Addr->Nat->Nat->Nat->World->Prop)(F:Option Addr->Nat->Nat->Option Addr->Nat->Nat->Nat->Act)(h1:Code.wp P c (j0b F R) a w)(h2:∀ A n C A' b C' g w',R A n C A' b C' g w'->Q Exit.normal (F A n C A' b C' g) w'):Code.wp P c Q a w:=
 Code.wp_mono (fun e d w' h=>by obtain⟨A,n,C,A',b,C',g,rfl,rfl,h⟩:=h;exact h2 A n C A' b C' g w' h) h1
attribute [local go_sem ↓] z4f z4t
set_option maxRecDepth 1000000 in
theorem q5B(g:Nat)(p D:Pr)(v:PrV)(P:Nat->Prop)(w w5:World)(c o g4:Nat)(dl:List (Int×Int))(ud ut:Value)(Y:c<2)(hC:CAt 47 w g (prC p v))(hp:PIn P w p v)(hg:¬ P g)(g5:0<=p.t)(g6:p.t<=1099511627776)(HO:Hid (o=66+c * 14))(HB:Hid (Bl w w5))(Q:Hid (CAt 49 w5 g4 #[.int .i64 1,.int .i64 p.h,.int .i64 0,.int .i64 0,ud,ut]))(a0:Hid (Rep (fun _=>True) w5 ud 2 16 (pwC dl)))(a1:Hid (Rep (fun _=>True) w5 ut 1 8 (inC (p.L c).done)))
  (HD:Hid (D=if Cd.z0o 1 p.h 0 0 dl (p.L c).done=0 then if Ln.z4M (p.L c).out (p.t+40)=0 then { p with L:=z3d p.L c { p.L c with out:=Ln.z5z (p.L c).out (Cd.encS 1 p.h 0 0 dl (p.L c).done) (p.t+40),told:=p.set,fresh:=false,done:=[] } } else p else p)) (v8 v9 a3 a4 a5 a6 a7 a8 a9 b4 b5 b6 b7 b9 c4 c5 c6 c7 c8 c9 d0 d1 d2 d3 d4 d5 d6 d7 d8 d9 e0 e1 e2 e3 e4 e5 e6 e7 e8 e9 f4 f5 f6 f7 f8 f9 g0 g1 g2:Value) :
  Code.wp prog q8G (bodyPost prog f32 (Turns w g P D)) ⟨List.toArray ((J2 (some ⟨g,0,none⟩)) :: (J2 (some ⟨g,o,none⟩)) :: undef :: undef :: (J2 (some ⟨g4,0,none⟩)) :: undef :: undef :: undef :: v8 :: v9 :: a3 :: a4 :: a5 :: a6 :: a7 :: a8 :: a9 :: b4 :: b5 :: b6 :: b7 :: b9 :: c4 :: c5 :: c6 :: c7 :: c8 :: c9 :: d0 :: d1 :: d2 :: d3 :: d4 :: d5 :: d6 :: d7 :: d8 :: d9 :: e0 :: e1 :: e2 :: e3 :: e4 :: e5 :: e6 :: e7 :: e8 :: e9 :: f4 :: f5 :: f6 :: f7 :: f8 :: f9 :: g0 :: g1 :: g2 :: undef :: undef :: undef :: undef :: undef :: undef :: undef :: undef :: undef :: undef :: undef :: undef :: undef :: undef :: undef :: undef :: undef :: undef :: undef :: undef :: undef :: undef :: undef :: undef :: undef :: undef :: undef :: undef :: undef :: undef :: undef :: undef :: undef :: undef :: undef :: undef :: undef :: undef :: undef :: undef :: undef :: []),[]⟩ w5:=by
 conv=>arg 2;whnf
 have HP:=J6 hp;have HC:=J6 hC;have g8:=hC.lt;obtain⟨A1,C1,A2,C2,sb,so,db,dO,rfl,rfl,hL⟩:=Rep.lies a0.out a1.out;have R:=J6 (Cd.q0M 1 p.h 0 0 dl (p.L c).done A1 A2 C1 C2 sb so db dO w5 hL);generalize Cd.encS 1 p.h 0 0 dl (p.L c).done=es at *;generalize Cd.z0o 1 p.h 0 0 dl (p.L c).done=E0 at *;have k0:w5.cell? ⟨g4,0,none⟩=some (.int .i64 1):=Q.out.cell 0;have k1:w5.cell? ⟨g4,0+1,none⟩=some (.int .i64 p.h):=Q.out.cell 1;have k2:w5.cell? ⟨g4,0+2,none⟩=some (.int .i64 0):=Q.out.cell 2;have k3:w5.cell? ⟨g4,0+3,none⟩=some (.int .i64 0):=Q.out.cell 3;have k4:w5.cell? ⟨g4,0+4,none⟩=some (J1 A1 dl.length C1):=Q.out.cell 4;have k5:w5.cell? ⟨g4,0+5,none⟩=some (J1 A2 (p.L c).done.length C2):=Q.out.cell 5;clear hL Q a0 a1 hC hp
 by_cases hE:E0=0
 rotate_left
 ·have hq:Hid (D=p):=HD.out.trans (if_neg hE);have g9:(E0 != 0)=true:=by simpa using hE
  clear HD
  go_wp2_with (go_at_call 6;refine R.out.mono ?_;rintro e w6⟨rfl,s⟩;have d:=J6 (zbt HB.out s);clear s)
  go_end0;rw[hq.out];exact⟨v,rfl,HC.out.over d.out,HP.out.z2w d.out 0,Alt.of d.out⟩
 subst hE;replace HD:=J6 (HD.out.trans (if_pos rfl))
 go_upto_region 4 with (go_at_call 6;refine R.out.mono ?_;rintro e w6⟨rfl,s⟩;have d:=J6 (zbt HB.out s);clear s k0 k1 k2 k3 k4 k5)
 have m:=d.out.size;obtain⟨As,ns,Cs,T⟩:=(HP.out.lk c Y).said.one';obtain⟨Ae,ne,Ce,U⟩:=(HP.out.lk c Y).due.one';have V:=J6 (fun (wx:World) (k:Bl w6 wx)=>q7d (p.L c).out es (p.t+40) (v.l c).said (v.l c).due (fun b=>P b/\b<w.heap.size) wx (((HP.out.lk c Y).said.mono fun b hl h=>⟨h,hl⟩).over (d.out.trans (k.mono m))) (((HP.out.lk c Y).due.mono fun b hl h=>⟨h,hl⟩).over (d.out.trans (k.mono m))));rw[T,U]at V
 have HF:Hid (∀ wx,Bl w6 wx->wx.cell? ⟨g,o+6,none⟩=some (J1 As ns Cs)/\wx.cell? ⟨g,o+6+1,none⟩=some (J1 Ae ne Ce)/\wx.cell? ⟨g,o+6+2,none⟩=some (.int .i64 (p.L c).out.g)/\wx.cell? ⟨g,o+6+3,none⟩=some (J3 (p.L c).out.cl)/\wx.cell? ⟨g,1,none⟩=some (.int .i64 p.t)):=fun wx k=>by
  have C:=HC.out.over (d.out.trans (k.mono m));have hf:=(C.lk Y).facts;rw[<- HO.out,T,U]at hf;exact⟨hf.2.2.2.2.2.2.1,hf.2.2.2.2.2.2.2.1,hf.2.2.2.2.2.2.2.2.1,hf.2.2.2.2.2.2.2.2.2,C.cell 1⟩
 clear T U;generalize Ln.z5z (p.L c).out es (p.t+40)=x at *;generalize Ln.z4M (p.L c).out (p.t+40)=E1 at *;generalize (p.L c).out.g=gg at *;generalize (p.L c).out.cl=gc at *;have a2:Hid (Bl w6 (w6.alloc (J5 Z4 37))):=znw w6 _;have u:=J6 a2.out.drew;have B:Hid (CAt 37 (w6.alloc (J5 Z4 37)).drew w6.heap.size Z4):=CAt.new 37 w6 Z4;have g3:Hid (w6.heap.size+1<=(w6.alloc (J5 Z4 37)).drew.heap.size):=B.out.lt;have y:=J6 m;have h4:IntKind.i64.wrap (p.t+40)=p.t+40:=z5V (by omega) (by omega)
 clear m R;unfold Z4 at a2 u;apply q6p (fun A n C A' n' C' g7 w'=>Sds P w w6 x (J1 A n C) (J1 A' n' C') g7 w')
 ·refine wp_region_noPanic ?_;refine wp_region_held_drew (S:=fun wx=>Bl w6 wx) (by kernel_rfl) (Below.refl _ _).drew (fun r=>?_)
  refine O.Z 0 (J2 (some ⟨g,o,none⟩)) 65 rfl rfl r (fun wx a=>?_) ?_
  ·try dsimp only at a
   go_simp
  simp only[O.pp,O.pb,O.pc];refine O.Z 1 (J2 (some ⟨g,o,none⟩)) 66 rfl rfl r (fun wx a=>?_) ?_
  ·try dsimp only at a
   go_simp
  simp only[O.pp,O.pb,O.pc];refine O.Z 2 (J2 (some ⟨g,o+6,none⟩)) 67 rfl rfl r (fun wx a=>?_) ?_
  ·try dsimp only at a
   go_simp
  simp only[O.pp,O.pb,O.pc];refine O.Z 3 (J4 #[J1 As ns Cs,J1 Ae ne Ce,.int .i64 gg,J3 gc]) 68 rfl rfl r (fun wx a=>?_) ?_
  ·try dsimp only at a
   obtain⟨l6,l7,l8,l9,l1⟩:=HF.out wx a;go_simp
  simp only[O.pp,O.pb,O.pc];refine O.Z 4 (.string es) 69 rfl rfl r (fun wx a=>?_) ?_
  ·try dsimp only at a
   go_simp
  simp only[O.pp,O.pb,O.pc];refine O.Z 5 (J2 (some ⟨g,0,none⟩)) 70 rfl rfl r (fun wx a=>?_) ?_
  ·try dsimp only at a
   go_simp
  simp only[O.pp,O.pb,O.pc];refine O.Z 6 (J2 (some ⟨g,0,none⟩)) 71 rfl rfl r (fun wx a=>?_) ?_
  ·try dsimp only at a
   go_simp
  simp only[O.pp,O.pb,O.pc];refine O.Z 7 (J2 (some ⟨g,1,none⟩)) 72 rfl rfl r (fun wx a=>?_) ?_
  ·try dsimp only at a
   go_simp
  simp only[O.pp,O.pb,O.pc];refine O.Z 8 (.int .i64 p.t) 73 rfl rfl r (fun wx a=>?_) ?_
  ·try dsimp only at a
   obtain⟨l6,l7,l8,l9,l1⟩:=HF.out wx a;go_simp
  simp only[O.pp,O.pb,O.pc];refine O.Z 9 (.int .i64 (p.t+40)) 74 rfl rfl r (fun wx a=>?_) ?_
  ·try dsimp only at a
   go_simp
  simp only[O.pp,O.pb,O.pc];refine O.z9R (i:=10) (j:=14) (by kernel_rfl) rfl rfl rfl rfl (fun K q=>?_) (fun K q=>?_)
  ·go_simp
   go_at_call 72
   refine (V.out _ (by with_reducible exact (Below.refl w6.heap.size w6).drew)).mono ?_
   rintro e wb⟨u1,u2,rfl,U1,U2,z⟩;obtain⟨E,F,G,rfl⟩:=U1.one';obtain⟨H,M,N,rfl⟩:=U2.one';have k:=(Below.refl w6.heap.size w6).drew.trans (z.mono (Below.refl w6.heap.size w6).drew.size);dsimp only;refine q _ _ k ?_;clear q K
   try simp only[O.pp,O.pb,O.pc]
   refine O.Z 11 (.tuple #[J4 #[J1 E F G,J1 H M N,.int .i64 x.g,J3 x.cl],.int .i64 E1]) 64 rfl rfl k (fun wx a=>?_) ?_
   ·try dsimp only at a
    go_simp
   simp only[O.pp,O.pb,O.pc];refine O.Z 12 (J4 #[J1 E F G,J1 H M N,.int .i64 x.g,J3 x.cl]) 76 rfl rfl k (fun wx a=>?_) ?_
   ·try dsimp only at a
    go_simp
   simp only[O.pp,O.pb,O.pc];refine O.Z 13 (.int .i64 E1) 77 rfl rfl k (fun wx a=>?_) ?_
   ·try dsimp only at a
    go_simp
   simp only[O.pp,O.pb,O.pc];refine O.z1p (i:=14) (by kernel_rfl) rfl rfl (fun K q=>?_)
   go_simp;refine q _ _ (k.alloc k.size _) ?_;clear q K
   try simp only[O.pp,O.pb,O.pc]
   obtain⟨wS,sA,f⟩:=z8S (P:=P) y.out (Nat.le_refl _) U1 U2 k;unfold Z4 at sA;refine O.z1p (i:=15) (by kernel_rfl) rfl rfl (fun K q=>?_)
   go_simp;refine q _ _ f.bel ?_;clear q K;refine O.Z 16 (.int .i64 E1) 6 rfl rfl f.bel (fun wx a=>?_) ?_
   ·try dsimp only at a
    go_simp
   simp only[O.pp,O.pb,O.pc];refine wpAnyH_done (by kernel_rfl) ?_ _
   obtain⟨W,X⟩:∃ W,W=wb.heap.size:=⟨_,rfl⟩;rw[<- X]at f ⊢;exact NoPanic.normal ⟨E,F,G,H,M,N,W,rfl,rfl,f⟩
  ·go_simp;refine q _ _ (r.alloc r.size _) ?_;clear q K
   try simp only[O.pp,O.pb,O.pc]
   refine O.z1p (i:=10) (by kernel_rfl) rfl rfl (fun K q=>?_)
   go_simp
   go_at_call 72
   refine (V.out _ (by with_reducible exact u.out)).mono ?_
   rintro e wb⟨u1,u2,rfl,U1,U2,z⟩;obtain⟨E,F,G,rfl⟩:=U1.one';obtain⟨H,M,N,rfl⟩:=U2.one';have k:=zbt u.out z;dsimp only;refine q _ _ k ?_;clear q K
   try simp only[O.pp,O.pb,O.pc]
   refine O.Z 11 (.tuple #[J4 #[J1 E F G,J1 H M N,.int .i64 x.g,J3 x.cl],.int .i64 E1]) 64 rfl rfl k (fun wx a=>?_) ?_
   ·try dsimp only at a
    go_simp
   simp only[O.pp,O.pb,O.pc];refine O.Z 12 (J4 #[J1 E F G,J1 H M N,.int .i64 x.g,J3 x.cl]) 76 rfl rfl k (fun wx a=>?_) ?_
   ·try dsimp only at a
    go_simp
   simp only[O.pp,O.pb,O.pc];refine O.Z 13 (.int .i64 E1) 77 rfl rfl k (fun wx a=>?_) ?_
   ·try dsimp only at a
    go_simp
   simp only[O.pp,O.pb,O.pc];obtain⟨wS,sC,f⟩:=q7C (P:=P) y.out g3.out U1 U2 k (B.out.over z);refine O.z1p (i:=15) (by kernel_rfl) rfl rfl (fun K q=>?_)
   go_simp;refine q _ _ f.bel ?_;clear q K;refine O.Z 16 (.int .i64 E1) 6 rfl rfl f.bel (fun wx a=>?_) ?_
   ·try dsimp only at a
    go_simp
   simp only[O.pp,O.pb,O.pc];refine wpAnyH_done (by kernel_rfl) ?_ _
   obtain⟨W,X⟩:∃ W,W=w6.heap.size:=⟨_,rfl⟩;rw[<- X]at f ⊢;exact NoPanic.normal ⟨E,F,G,H,M,N,W,rfl,rfl,f⟩
 rintro E F G H M N g7 w7 S7;simp only[Exit.then];apply_assumption;refine q4Y g p D v P w w7 c o g7 x _ _ E1 Y HC.out HP.out hg HO (d.out.trans (S7.bel.mono y.out)) (Nat.le_trans y.out S7.le) S7.cat S7.r1 S7.r2 HD _ _ _ _ _ _ _ _ _ _ _ _ _ _ _ _ _ _ _ _ _ _ _ _ _ _ _ _ _ _ _ _ _ _ _ _ _ _ _ _ _ _ _ _ _ _ _ _ _ _ _ _ _ _ _ _ _ _ _ _ _ _ _ _ _ _ _ _ _ _ _ _ _ _ _ _ _ _ _ _ _ _ _ _ _ _ _ _ _ _ _ _ _ _
end Pv
end Go.Proofs.YtjghbciepinofaaGreat
