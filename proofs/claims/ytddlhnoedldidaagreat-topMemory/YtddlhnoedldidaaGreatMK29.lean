/- Parts of the proof. -/
import Derived.Test.YtddlhnoedldidaaGreatML
import Derived.Test.YtddlhnoedldidaaGreatMK7
import Derived.Test.YtddlhnoedldidaaGreatMK41
set_option maxRecDepth 100000
set_option maxHeartbeats 16000000
namespace Go.Proofs.YtddlhnoedldidaaGreat
open Go.Proofs.Tryz
open Value renaming int->J,slice->J1,pointer->J2,bool->J3,agg->J4
open IntKind renaming i64->I
open Obj renaming cells->J5
namespace Pv
open Go.RowKit
def j8s(P:Nat->Prop)(w:World)(r:Pr)(e:Ending)(w':World):Prop:=∃ v',e=.returned (J4 (prC r v'))/\PIn (New P w 2) w' r v'/\Bl w w'
theorem q1a{f:Func}{t:Tmp}(a:f.results=#[.cell t 58]){P:Nat->Prop}{w wq:World}{c:Array Value}(R:CAt 58 wq (w.heap.size+1) c)(d:c.size=97)(H:Bl w wq)(b:Pr)(v':PrV)(r:Pr)(e:r=b)(hp:PIn (New P w 2) wq b v')(act:Act)
  (g:act.tmps.getD t undef=J2 (some ⟨w.heap.size+1,0,none⟩)) (hd:act.defers=[]) :
  bodyPost prog f (j8s P w r) Exit.ret act (wq.setCells (w.heap.size+1) 0 (prC b v').toList):=by
 subst e;have h:=R.z0t (ds:=prC r v') (by rw[d];rfl)
 exact bodyPost_ret (v:=J4 (prC r v')) (z5v a _ _ _ _ g h rfl) hd ⟨v',rfl,hp.sets (z3F (by omega)) _ _,z0a (Nat.le_succ _) _ _ _ H⟩
theorem j3Y(p:Pr)(v:PrV)(k:Nat)(d:k<2):(((((prC p v).setIfInBounds (66+k * 14) (J3 false)).setIfInBounds (66+k * 14+1) (J3 true)).setIfInBounds (66+k * 14+6+3) (J3 true)).setIfInBounds (66+k * 14+4) (J3 false)).setIfInBounds (66+k * 14+5) q2l=prC { p with L:=z1a p.L k (z4O (p.L k)) } (v.upd k { v.l k with done:=q2l }):=by
 obtain⟨a,c,b,h1,h2⟩:=z5q p v k d;rw[h1,h2,<- Nat.add_zero (66+k * 14)];rw[set_mid _ _ _ _ 0 _ b (by simp[lkL]),Nat.add_zero,set_mid _ _ _ _ 1 _ b (by simp[lkL]),Nat.add_assoc (66+k * 14) 6 3,set_mid _ _ _ _ (6+3) _ b (by simp[lkL]),set_mid _ _ _ _ 4 _ b (by simp[lkL]),set_mid _ _ _ _ 5 _ b (by simp[lkL])]
 rfl
attribute [local go_sem ↓] z1B z0H z0w z1w
theorem z7e(p:Pr)(v:PrV)(P:Nat->Prop)(w:World)(c:Int)(hp:PIn P w p v)(Q:p.q.length * 88<=140737488351232) :
  Calls prog 90 #[J4 (prC p v),J I c] w (j8s P w (z0Q p c)):=by
 have hD:z0Q p c=if z0J p=true/\z9q p c=true then { p with s:={ p.s with W:=z5f c.toNat 1099511627776 p.s.W },L:=z1a p.L c.toNat (z4O (p.L c.toNat)),q:=p.q.filter fun a=>decide (a.1≠c) } else p:=by unfold z0Q;rfl
 generalize z0Q p c=D at *;have R:=J6 hD;clear hD;have a0:=J6 Q;clear Q;have j:=z0Y hp;have H:=J6 (fun (K:World) (hb:Bl w K)=>z3a p v P K (hp.over hb));have HN:=J6 (fun (K:World) (hb:Bl w K)=>hp.z2y hb 2);have HP:=J6 hp;clear hp;generalize z0J p=G at *
 go_enter func90,ntmps90
 go_upto_region 1 with fail
 change Code.wp prog _ _ _ ((w.alloc (J5 (prC p v) 58)).alloc (J5 zeroCells58 58));have C0:CAt 58 ((w.alloc (J5 (prC p v) 58)).alloc (J5 zeroCells58 58)) w.heap.size (prC p v):=(CAt.new _ w _).alloc _;have R0:CAt 58 ((w.alloc (J5 (prC p v) 58)).alloc (J5 zeroCells58 58)) (w.heap.size+1) zeroCells58:=CAt.new2 _ w _ _;have B0:Bl w ((w.alloc (J5 (prC p v) 58)).alloc (J5 zeroCells58 58)):=(znw w _).alloc (by simp) _
 generalize (w.alloc (J5 (prC p v) 58)).alloc (J5 zeroCells58 58)=w0 at *;have l0:=z0j C0 (z0b _ _);have u:=J6 (show _/\_/\_ from⟨C0,R0,B0⟩);clear C0 R0 B0
 by_cases M:G=true/\z9q p c=true
 ·obtain⟨rfl,m⟩:=M;replace R:=J6 (R.out.trans (if_pos ⟨rfl,m⟩));have a1:isC c=true:=by unfold z9q at m;simp at m;exact m.1
  obtain⟨k,rfl,hk⟩:=z9a a1;rw[Int.toNat_natCast]at R;clear a1
  go_upto_region 3 with (first
   | (go_at_call 67;refine (H.out _ u.out.2.2).mono ?_;rintro e w1⟨rfl,d⟩;have f:=u.out.1.over d;clear l0)
   | (go_at_call 97;refine (z5s w.heap.size p v k _ f).mono ?_;rintro e w'⟨rfl,rfl⟩;simp only[m]))
  have Y:=u.out.2.1.over d;have B1:=zbt u.out.2.2 d;clear d u H;have b8:(k:Int)<2:=by omega
  have b9:(0:Int)<=(k:Int):=by omega
  obtain⟨c0,c1,-,-,c4,c5,-,-,-,c9⟩:=(f.lk hk).facts;have f0:=f.free (66+k * 14);have f1:=f.free (66+k * 14+1);have f4:=f.free (66+k * 14+4);have f5:=f.free (66+k * 14+5);have f9:=f.free (66+k * 14+6+3);have c6:=f.lt;have r:=J6 (show _/\_/\_ from⟨f,Y,B1⟩);clear f Y B1 j;have a2:=J6 (fun (K:World) (hb:Bl w K)=>j2K (HP.out.ws.over hb) k 1099511627776 hk);have T:=J6 (fun (K:World) (hb:Bl w K)=>q1c p.q v.q (fun b=>P b/\b<w.heap.size) K k ((HP.out.q.mono (P':=fun b=>P b/\b<w.heap.size) fun _ hl hP=>⟨hP,hl⟩).keep fun b _ a6=>hb.block b a6) a0.out)
  go_upto_region 7 with fail
  have C2:=((((r.out.1.set (66+k * 14) (J3 false)).set (66+k * 14+1) (J3 true)).set (66+k * 14+6+3) (J3 true)).set (66+k * 14+4) (J3 false)).set (66+k * 14+5) (J1 none 0 0);rw[show (Value.slice none 0 0)=q2l from rfl,j3Y p v k hk]at C2;have A2:Alt w.heap.size w1 _:=(((((Alt.refl w.heap.size w1).set (66+k * 14) (J3 false)).set (66+k * 14+1) (J3 true)).set (66+k * 14+6+3) (J3 true)).set (66+k * 14+4) (J3 false)).set (66+k * 14+5) q2l;have R2:=A2.cat (b:=w.heap.size+1) (by omega) r.out.2.1
  have B2:=r.out.2.2.trans (A2.below (Nat.le_refl _) r.out.2.2.size);change Code.wp prog _ _ _ (((((w1.setCell ⟨w.heap.size,66+k * 14,none⟩ (J3 false)).setCell ⟨w.heap.size,66+k * 14+1,none⟩ (J3 true)).setCell ⟨w.heap.size,66+k * 14+6+3,none⟩ (J3 true)).setCell ⟨w.heap.size,66+k * 14+4,none⟩ (J3 false)).setCell ⟨w.heap.size,66+k * 14+5,none⟩ q2l);clear A2 r c0 c1 c4 c5 c9 f0 f1 f4 f5 f9;generalize ((((w1.setCell ⟨w.heap.size,66+k * 14,none⟩ (J3 false)).setCell ⟨w.heap.size,66+k * 14+1,none⟩ (J3 true)).setCell ⟨w.heap.size,66+k * 14+6+3,none⟩ (J3 true)).setCell ⟨w.heap.size,66+k * 14+4,none⟩ (J3 false)).setCell ⟨w.heap.size,66+k * 14+5,none⟩ q2l=w2 at *;have m2:=z2a C2;change (z8i (J2 (some ⟨w.heap.size,2,none⟩))).run prog w2=.ok (J4 (stC p.s v.ws)) w2 at m2;have c7:=R2.lt;have H2:=J6 (show _/\_/\_ from⟨C2,R2,B2⟩);clear C2 R2 B2
  go_upto_region 8 with (go_at_call 128;refine (a2.out _ H2.out.2.2).mono ?_;rintro e w3⟨U,rfl,U3,N⟩;clear m2;have C3:=H2.out.1.over N;have a7:=z2D C3 (z0b _ _) (z0f { p.s with W:=z5f k 1099511627776 p.s.W } U) (z6r _ U3.one'))
  have R3:=H2.out.2.1.over N;have B3:=zbt H2.out.2.2 N;have C4:=C3.z1g { p.s with W:=z5f k 1099511627776 p.s.W } U
  have R4:=R3.others (c:=w.heap.size) (o:=2) (by omega) (stC { p.s with W:=z5f k 1099511627776 p.s.W } U).toList
  have B4:=z0a (b:=w.heap.size) (Nat.le_refl _) (stC { p.s with W:=z5f k 1099511627776 p.s.W } U).toList 2 _ B3
  have U4:=U3.sets (g:=w.heap.size) (fun h=>by omega) 2 (stC { p.s with W:=z5f k 1099511627776 p.s.W } U).toList
  clear a7 N H2 C3 R3 B3 U3 a2;generalize w3.setCells w.heap.size 2 (stC { p.s with W:=z5f k 1099511627776 p.s.W } U).toList=w4 at *
  have a3:w4.cell? ⟨w.heap.size,96,none⟩=some v.q:=C4.cell 96;have a8:=R4.lt;have Z:=J6 (show _/\_/\_/\_ from⟨C4,R4,B4,U4⟩);clear C4 R4 B4 U4;obtain⟨zq,a9,a4,b4⟩:=HP.out.q;obtain⟨Aq,nq,Dq,eq⟩:=a4.one';have c8:=J6 eq;rw[eq]at a3 T;clear eq a9 a4 b4
  go_upto_region 9 with (go_at_call 129;refine (T.out _ Z.out.2.2.1).mono ?_;rintro e w5⟨u5,rfl,U5,t⟩;clear a3;obtain⟨B,E,F,e5⟩:∃ A n C,u5=J1 A n C:=(by obtain⟨_,_,h,_⟩:=id U5;exact h.one');subst e5;have C5:=Z.out.1.over t;have b5:w5.cell? ⟨w.heap.size,96,none⟩=some v.q:=C5.cell 96;have b6:=C5.free 96;have d0:=C5.lt)
  have C6:=C5.set 96 (J1 B E F);rw[j8l]at C6;have R6:=(Z.out.2.1.over t).other (c:=w.heap.size) (o:=96) (by omega) (J1 B E F)
  have B5:=zbt Z.out.2.2.1 t;have B6:=B5.setCell (p:=⟨w.heap.size,96,none⟩) (Nat.le_refl _) (J1 B E F);have A6:Alt w.heap.size w5 (w5.setCell ⟨w.heap.size,96,none⟩ (J1 B E F)):=(Alt.refl _ _).set 96 _
  have N6:PIn (New P w 2) (w5.setCell ⟨w.heap.size,96,none⟩ (J1 B E F)) { p with s:={ p.s with W:=z5f k 1099511627776 p.s.W },L:=z1a p.L k (z4O (p.L k)),q:=p.q.filter fun a=>decide (a.1≠k) } { ws:=U,set:=v.set,l:=(v.upd k { v.l k with done:=q2l }).l,q:=J1 B E F }:=by
   have n6:=HN.out _ B6;have d1:w.heap.size+1<w4.heap.size:=a8;refine⟨?_,n6.set,fun c hc=>?_,?_⟩
   ·have h4:=(Z.out.2.2.2.mono (P':=fun b=>w2.heap.size<=b/\b<w4.heap.size) fun _ hl h=>⟨h,hl⟩).over t;exact (A6.rep (fun h=>by omega) h4).mono fun b _ hb=>.inr (by omega)
   ·have h:=n6.lk c hc
    show z5g _ _ (if c=k then z4O (p.L k) else p.L c) (if c=k then { v.l k with done:=q2l } else v.l c)
    by_cases V:c=k
    ·subst V;rw[if_pos rfl,if_pos rfl];exact⟨h.told,Rep.nil _ _ _ _,h.said,h.due⟩
    ·rw[if_neg V,if_neg V];exact h
   ·obtain⟨z,h1,h2,h3⟩:=U5
    have X:¬ New (fun b=>P b/\b<w.heap.size) w4 0 w.heap.size:=fun h=>by
     rcases h with⟨h,_⟩ | h
     ·have:=h.2;omega
     ·omega
    have hm:∀ b,b<(w5.setCell ⟨w.heap.size,96,none⟩ (J1 B E F)).heap.size->New (fun b=>P b/\b<w.heap.size) w4 0 b->New P w 2 b:=fun b _ h=>by
     rcases h with⟨h,_⟩ | h
     ·exact .inl h
     ·exact .inr (by omega)
    exact⟨z,h1,(A6.rep X h2).mono hm,fun i x y hx hy=>⟨(A6.rep X (h3 i x y hx hy).1).mono hm,(A6.rep X (h3 i x y hx hy).2).mono hm⟩⟩
  obtain⟨p6,v6,a5,K6,M6⟩:∃ p6 v6,D=p6/\CAt 58 (w5.setCell ⟨w.heap.size,96,none⟩ (J1 B E F)) w.heap.size (prC p6 v6)/\PIn (New P w 2) (w5.setCell ⟨w.heap.size,96,none⟩ (J1 B E F)) p6 v6:=⟨_,_,R.out,C6,N6⟩;have l6:=z0j K6 (z0b _ _);have s6:=z0k R6 z0d (z0b p6 v6) (z0Y M6);have S:=J6 (show _/\_/\_/\_ from⟨R6,B6,M6,a5⟩);clear C6 K6 R6 B6 A6 N6 M6 B5 C5 U5 t Z T b5 b6 R a5;generalize w5.setCell ⟨w.heap.size,96,none⟩ (J1 B E F)=w6 at *;go_wp2;exact q1a results90 S.out.1 z0d S.out.2.1 p6 v6 D S.out.2.2.2 S.out.2.2.1 _ rfl rfl
 ·replace R:=J6 (R.out.trans (if_neg M))
  have b7:G=false∨(G=true/\z9q p c=false):=by
   cases G
   ·exact .inl rfl
   ·cases h:z9q p c
    ·exact .inr ⟨rfl,rfl⟩
    ·exact absurd ⟨rfl,h⟩ M
  clear M
  rcases b7 with rfl | ⟨rfl,h1⟩
  all_goals
   go_upto_region 2 with (first
    | (go_at_call 67;refine (H.out _ u.out.2.2).mono ?_;rintro e w1⟨rfl,d⟩;have f:=u.out.1.over d;clear l0)
    | (go_at_call 97;refine (z5s w.heap.size p v c _ f).mono ?_;rintro e w'⟨rfl,rfl⟩;simp only[h1]))
   have Y:=u.out.2.1.over d;have l1:=z0j f (z0b _ _);have s1:=z0k Y z0d (z0b p v) j;have B1:=zbt u.out.2.2 d;have S:=J6 (show _/\_ from⟨Y,B1⟩);clear Y B1 d j u H f;go_wp2;exact q1a results90 S.out.1 z0d S.out.2 p v D R.out (HN.out _ S.out.2) _ rfl rfl
end Pv
namespace Kc
open Go.RowKit Pv
theorem Rep.tail{P:Nat->Prop}{w:World}{b off n C:Nat}{x:Int×Int}{l:List (Int×Int)}(h:Rep P w (J1 (some ⟨b,off,none⟩) n C) 2 8 (pwC (x :: l))):Rep P w (.slice (if C=1 then some ⟨b,off,none⟩ else some ⟨b,off+2,none⟩) l.length (C - 1)) 2 8 (pwC l):=by
 obtain⟨A,m,C',h1,h2,h3,g,c⟩:=h;cases h1;rw[z0c,List.length_cons]at h2;have i:n=l.length+1:=by omega
 refine⟨_,l.length,C - 1,rfl,z0c _,by omega,⟨fun h=>(by split at h <;> cases h),by omega⟩,fun h0=>?_⟩
 obtain⟨k,a,e,d,f,hc⟩:=c (by omega)
 cases e;refine⟨b,off+2,if_neg (by omega),d,f,fun j u hu=>?_⟩
 have:=hc (j+2) u (by show ([_,_] ++ pwC l)[j+2]?=_;simpa using hu)
 rwa [show off+(j+2)=off+2+j by omega]at this
theorem j6W(c:Cs)(k i x n now:Int):(z2A c k i x n now).1.rp=c.rp/\(z2A c k i x n now).1.t=c.t:=by unfold z2A;split <;> exact⟨rfl,rfl⟩
theorem j5G{c:Cs}{k i x n now:Int}(h:(z2A c k i x n now).2≠0):(z2A c k i x n now).1=c:=by
 unfold z2A at h ⊢
 split at h
 ·rename_i hg;rw[if_pos hg];dsimp only at h ⊢;unfold Ln.z5K;rw[if_neg h]
 ·rename_i hg;rw[if_neg hg]
def q5e(g:Nat)(w:World):Nat:=match w.cell? ⟨g,7,none⟩ with
 | some (J1 _ n _)=>n
 | _=>0
theorem CAt.q5e{w:World}{g:Nat}{c:Cs}{v:CsV}(h:CAt 75 w g (csC c v)){A:Option Addr}{n C:Nat}(e:v.rp=J1 A n C):q5e g w=n:=by
 unfold Kc.q5e;rw[show w.cell? ⟨g,7,none⟩=some (J1 A n C) by rw[<- e];exact h.cell 7]
theorem j1z{c:Cs}(h:c.rp=[]):z2J c c.rp=c:=by
 rw[h]
 show { c with rp:=[] }=c
 rw[<- h]
theorem q8o{c:Cs}{x:Int×Int}{l:List (Int×Int)}(h:c.rp=x :: l):z2J c c.rp=if x.2<=c.t then (if (z2A c 2 x.1 0 0 c.t).2=0 then z2J (z2A c 2 x.1 0 0 c.t).1 l else c) else c:=by
 rw[h];have e:{ c with rp:=x :: l }=c:=by rw[<- h]
 show (if x.2<=c.t then (if (z2A c 2 x.1 0 0 c.t).2=0 then z2J (z2A c 2 x.1 0 0 c.t).1 l else { c with rp:=x :: l }) else { c with rp:=x :: l })=_
 rw[e]
theorem q8P(c:Cs)(l:List (Int×Int)):∀ m,z2J { c with rp:=m } l=z2J c l:=by
 induction l generalizing c with
 | nil=>intro m;rfl
 | cons x l ih =>
  intro m;have e:z2A { c with rp:=m } 2 x.1 0 0 c.t=({ (z2A c 2 x.1 0 0 c.t).1 with rp:=m },(z2A c 2 x.1 0 0 c.t).2):=by unfold z2A;split <;> rfl
  show (if x.2<=c.t then (if (z2A { c with rp:=m } 2 x.1 0 0 c.t).2=0 then z2J (z2A { c with rp:=m } 2 x.1 0 0 c.t).1 l else { c with rp:=x :: l }) else { c with rp:=x :: l })=(if x.2<=c.t then (if (z2A c 2 x.1 0 0 c.t).2=0 then z2J (z2A c 2 x.1 0 0 c.t).1 l else { c with rp:=x :: l }) else { c with rp:=x :: l })
  rw[e];dsimp only;rw[ih]
theorem q1d(g:Nat)(c:Cs)(v:CsV)(P:Nat->Prop)(w:World)(h:CAt 75 w g (csC c v))(hp:CIn P w c v)(hg:¬ P g)(a1:0<=c.t)(a2:c.t<=1099511627776) :
  Calls prog 123 #[J2 (some ⟨g,0,none⟩)] w (j2I w g P (z2J c c.rp) (.tuple #[])):=by
 obtain⟨D,hD⟩:∃ D,z2J c c.rp=D:=⟨_,rfl⟩;rw[hD];have Q:=z0I hg h.lt;have HS:=J6 (show CAt 75 w g (csC c v)/\CIn (New P w 0) w c v/\z2J c c.rp=D from⟨h,hp.z2y (Below.refl _ _) 0,hD⟩);clear h hp hD
 go_enter func123,ntmps123
 go_wp2
 go_loopw [2] (fun _ wl=>∃ (d:Cs) (u:CsV),Hid (CAt 75 wl g (csC d u)/\CIn (New P w 0) wl d u/\z2J d d.rp=D)/\Hid (Alt g w wl)/\Hid (d.t=c.t)) (fun _ wl=>q5e g wl)
 case atStart=>exact⟨c,v,HS,Alt.refl _ _,rfl⟩
 case round =>
  obtain⟨d,u,j,HA,H⟩:=hrel;obtain⟨Ar,Cr,er,-,a4,R,-⟩:=j.out.2.1.rp.open (z0c _) (by decide)
  have a5:=j.out.2.1.rp.room er;have a7:wr.cell? ⟨g,7,none⟩=some (J1 Ar d.rp.length Cr):=by rw[<- er];exact j.out.1.cell 7
  have a3:wr.cell? ⟨g,3,none⟩=some (J I d.t):=j.out.1.cell 3;have alt:∀ {S:World},Alt g w S->∀ n,Alt g w (S.drewN n):=fun h n=>⟨h.os,h.tape,h.output,h.size,h.block⟩;cases m:d.rp with
  | nil =>
   rw[m]at a7;have T:D=d:=by rw[<- j.out.2.2,j1z m]
   have f:=J6 T;clear T
   go_upto_region 0 with fail
   go_quiet (fail);go_wp2;go_end0;rw[f.out];exact⟨u,rfl,j.out.1,j.out.2.1.keep fun _ _ _=>rfl,alt HA.out _⟩
  | cons x l =>
   have T:D=if x.2<=d.t then (if (z2A d 2 x.1 0 0 d.t).2=0 then z2J (z2A d 2 x.1 0 0 d.t).1 l else d) else d:=by rw[<- j.out.2.2,q8o m]
   have f:=J6 T;clear T;have A:d.rp.length=l.length+1:=by rw[m];rfl
   have b4:(0:Int)<((l.length:Int)+1):=by omega
   obtain⟨b,off,rfl,-,a6,hcell⟩:=R (by omega)
   rw[A]at a7;have c0:wr.cell? ⟨b,off,none⟩=some (J I x.1):=hcell 0 _ (by rw[m];rfl)
   have c1:wr.cell? ⟨b,off+1,none⟩=some (J I x.2):=hcell 1 _ (by rw[m];rfl)
   obtain⟨K,x2⟩:=x;dsimp only at c0 c1 f;have L:=CAt.q5e j.out.1 er;rw[A]at L;have a8:=J6 L;clear hcell R a4 L
   by_cases B:x2<=d.t
   ·replace f:=J6 (f.out.trans (if_pos B));have M:=J6 (fun (S:World) (hb:Bl wr S)=>z9o g d u 2 K 0 0 d.t (New P w 0) S (j.out.1.over hb) (j.out.2.1.over hb) Q (by rw[H.out];exact a1) (by rw[H.out];exact a2))
    have p:=j6W d 2 K 0 0 d.t;have U:=J6 (fun h=>j5G (c:=d) (k:=2) (i:=K) (x:=0) (n:=0) (now:=d.t) h);generalize b7:z2A d 2 K 0 0 d.t=SS at *;obtain⟨C,e2⟩:=SS;dsimp only at M f p U
    go_upto_region 0 with fail
    go_quiet (fail)
    go_upto_region 1 with fail
    have b1:Bl wr (wr.drewN nq):=⟨rfl,rfl,rfl,Nat.le_refl _,fun _ _=>rfl⟩;have d7:(wr.drewN nq).cell? ⟨g,7,none⟩=some (J1 (some ⟨b,off,none⟩) (l.length+1) Cr):=a7;have d3:(wr.drewN nq).cell? ⟨g,3,none⟩=some (J I d.t):=a3;have d0:(wr.drewN nq).cell? ⟨b,off,none⟩=some (J I K):=c0;have V:=J6 (show _/\_/\_ from⟨j.out.1.over b1,j.out.2.1.over b1,alt HA.out nq⟩);have W:=J6 b1;clear a7 a3 c0 c1 b1 a6 alt;generalize wr.drewN nq=w1 at *;apply z3M (fun y=>∃ u2,CAt 75 y g (csC C u2)/\CIn (New P w 0) y C u2/\Alt g w y)
    ·refine wp_region_noPanic ?_
     go_region_with (go_at_call 132;refine (M.out _ (by exact W.out.drew)).mono ?_;rintro e y⟨u2,rfl,r,o,z⟩;have HW:=J6 (show _/\_/\_ from⟨r,o,z⟩);clear r o z)
     all_goals
      obtain⟨r,o,z⟩:=HW.out;have A1:=V.out.2.2;have A3:Alt g w y:=A1.trans (Alt.trans (Alt.of (Below.refl _ w1).drew) z);refine NoPanic.normal ⟨rfl,rfl,u2,r,o.mono fun b' _ s=>?_,A3⟩
      rcases s with⟨s,_⟩ | s
      ·exact s
      ·exact .inr (Nat.le_trans A1.size s)
    rintro y⟨u2,r,o,z⟩;clear d7 d3 d0 M W V;have E:C.rp=(K,x2) :: l:=by rw[p.1,m]
    have X:=J6 (p.2.trans H.out);clear p
    by_cases he:e2=0
    ·subst he;replace f:=J6 (f.out.trans (if_pos rfl));obtain⟨A3,q,e3,-,-,Y,-⟩:=o.rp.open (z0c _) (by decide)
     have N:C.rp.length=l.length+1:=by rw[E];rfl
     obtain⟨b3,a,rfl,-,-,-⟩:=Y (by omega)
     rw[N]at e3;have a0:=(o.rp.room e3).1;have b8:(1:Int)<=(l.length:Int)+1:=by omega
     have b5:(l.length:Int)+1<=(q:Int):=by omega
     have b6:(1:Int)<=(q:Int):=by omega
     have z7:y.cell? ⟨g,7,none⟩=some (J1 (some ⟨b3,a,none⟩) (l.length+1) q):=by rw[<- e3];exact r.cell 7
     have f7:=r.free 7;have b9:=r.lt;have r4:Rep (New P w 0) y (.slice (if q=1 then some ⟨b3,a,none⟩ else some ⟨b3,a+2,none⟩) l.length (q - 1)) 2 8 (pwC l):=Rep.tail (x:=(K,x2)) (n:=l.length+1) (by have:=o.rp;rw[e3,E]at this;exact this)
     have C4:=r.set 7 (.slice (if q=1 then some ⟨b3,a,none⟩ else some ⟨b3,a+2,none⟩) l.length (q - 1));rw[q8J C u2 l]at C4;have Z:CIn (New P w 0) y { C with rp:=l } { u2 with rp:=.slice (if q=1 then some ⟨b3,a,none⟩ else some ⟨b3,a+2,none⟩) l.length (q - 1) }:=⟨o.set,o.pd,r4,o.said,o.due⟩
     have I4:=Z.set1 Q 7 (.slice (if q=1 then some ⟨b3,a,none⟩ else some ⟨b3,a+2,none⟩) l.length (q - 1));have A4:=z.set 7 (.slice (if q=1 then some ⟨b3,a,none⟩ else some ⟨b3,a+2,none⟩) l.length (q - 1));have F:=CAt.q5e C4 rfl;have G:=J6 (show _/\_/\_/\_ from⟨C4,I4,A4,F⟩);have a9:=J6 (q8P C l l);clear C4 I4 Z A4 r4 F r o z Y;simp only[Exit.then];apply_assumption;go_wp2;exact⟨⟨_,_,⟨G.out.1,G.out.2.1,by rw[a9.out];exact f.out.symm⟩,G.out.2.2.1,X.out⟩,by rw[G.out.2.2.2,a8.out];omega⟩
    ·replace f:=J6 (f.out.trans (if_neg he));have c4:(e2 != 0)=true:=by simpa using he
     have ed:C=d:=U.out he;subst ed;have G:=J6 (show _/\_/\_ from⟨r,o,z⟩);clear r o z;simp only[Exit.then];apply_assumption;go_wp2;go_end0;rw[f.out];exact⟨u2,rfl,G.out.1,G.out.2.1,G.out.2.2⟩
   ·replace f:=J6 (f.out.trans (if_neg B))
    go_upto_region 0 with fail
    go_quiet (fail);go_wp2;go_end0;rw[f.out];exact⟨u,rfl,j.out.1,j.out.2.1.keep fun _ _ _=>rfl,alt HA.out _⟩
end Kc
namespace Kc
open Go.RowKit Pv
theorem q0W:∀ (l:List Int) (last:Int),Cd.z0l last l=true->∀ u∈l,0<=u/\u<6
 | [],_,_,u,hu=>by simp at hu
 | x :: l,last,h,u,hu=>by
  unfold Cd.z0l Cd.isV at h;simp only[Bool.and_eq_true,decide_eq_true_eq]at h
  rcases List.mem_cons.1 hu with rfl | hu
  ·exact h.1.2
  ·exact q0W l x h.2 u hu
theorem z5e:∀ (l:List Pkt) (c:Cs),(l.foldl takeC c).pd=c.pd/\(l.foldl takeC c).t=c.t/\(l.foldl takeC c).rp.length=c.rp.length+l.length
 | [],c=>⟨rfl,rfl,rfl⟩
 | x :: l,c=>by
  have:=z5e l (takeC c x);rw[List.foldl_cons];refine⟨this.1,this.2.1,?_⟩;rw[this.2.2,List.length_cons]
  show (c.rp ++ [_]).length+_=_
  simp
  omega
theorem z8w.below{g B:Nat}{o:Option Nat}{w w':World}(h:z8w g o w w')(b:B<=g)(a:∀ r,o=some r->B<=r)(c:B<=w.heap.size):Below B w w':=⟨h.os,h.tape,h.output,h.size,fun k d=>h.block k (by omega) (by omega) (fun e=>by have:=a k e.symm;omega)⟩
theorem q5Z(ao:Option Addr)(n c:Nat)(a:n<=c)(h0:ao=none->n=0)(hc:(n:Int)<4611686018427387904)(w:World):Calls prog 121 #[J1 ao n c] w fun e w'=>e=.returned (J1 ao n n)/\w=w':=by
 have h1:(n:Int)<=(c:Int):=by omega
 have h2:(0:Int)<=(n:Int):=by omega
 go_enter func121,ntmps121
 cases ao
 ·obtain rfl:=h0 rfl;go_wp2;go_ret;exact⟨rfl,rfl⟩
 ·clear h0;go_wp2;go_ret;exact⟨rfl,rfl⟩
structure EnR(P:Nat->Prop)(w:World)(c:Cs)(pv:Value)(d:Cs)(wl:World):Prop where
 st:∃ (u:CsV) (o:Option Nat) (Q:Nat->Prop),z7j Q (w.heap.size+2) o wl w.heap.size d u/\u.pd=pv/\(∀ b,Q b->New P w 2 b)/\(∀ r,o=some r->w.heap.size+2<=r)
 R:CAt 75 wl (w.heap.size+1) Z22
 B:Bl w wl
theorem EnR.take{P:Nat->Prop}{w wl g:World}{c d i:Cs}{pv:Value}{u:CsV}{o:Option Nat}{Q:Nat->Prop}{e:Ending}(h1:z7j Q (w.heap.size+2) o wl w.heap.size d u)(h3:∀ b,Q b->New P w 2 b)(f:∀ r,o=some r->w.heap.size+2<=r)(R:CAt 75 wl (w.heap.size+1) Z22)(B:Bl w wl)(h:j2h Q (w.heap.size+2) o wl w.heap.size i pv e g):e=.returned (.tuple #[])/\EnR P w c pv i g:=by
 obtain⟨v',j,k,l,t,m,q1,q2,q3,a⟩:=h;have p:w.heap.size+2<=wl.heap.size:=R.lt;refine⟨l,⟨v',j,k,t,m,fun b hb=>?_,fun r e=>?_⟩,?_,?_⟩
 ·rcases q1 b hb with⟨hq,_⟩ | hq
  ·exact h3 b hq
  ·exact .inr (by omega)
 ·rcases q3 with rfl | ⟨q,n,s⟩
  ·exact f r e
  ·rw[n]at e;cases e;omega
 ·exact R.keep (a.block _ R.lt (by omega) (fun e=>by have:=f _ e.symm;omega))
 ·exact B.trans (a.below (Nat.le_refl _) (fun r e=>by have:=f r e;omega) (by omega))
attribute [local go_sem ↓] z1r z1j
theorem j1O(c:Cs)(v:CsV)(P:Nat->Prop)(w:World)(now:Int)(hp:CIn P w c v)(a5:(c.rp.length+c.pd.length) * 16<=168884986026393) :
  Calls prog 83 #[J4 (csC c v),.int .i64 now] w (j5u P w (q1r c now)):=by
 have hD:q1r c now=if z5t c=0 then (if isT now=true/\c.t<=now then (z6y { c with h:=c.h+1,t:=now },0) else (c,2)) else (c,z5t c):=rfl
 have d3:Hid (z6y { c with h:=c.h+1,t:=now }=z2J { z2Z { c with h:=c.h+1,t:=now } with pd:=[] } (z2Z { c with h:=c.h+1,t:=now }).rp):=rfl
 have a8:Hid (z2Z { c with h:=c.h+1,t:=now }=c.pd.foldl takeC { c with h:=c.h+1,t:=now }):=rfl
 have HB:=J6 (j7q hp);have a9:=J6 (fun (N:World) (h:q1s P w N c v)=>z4i w.heap.size c v P N h.C0 h.I0);have HD:=J6 hD;have L:=J6 a5
 have b4:Hid (z5t c=0->(0<=c.h/\c.h<1099511627776)/\(0<=c.t/\c.t<=1099511627776)/\c.pd.all z5C=true):=fun h=>by
  have:=z4z (q2Y h).1;exact⟨⟨this.1.2.1,this.1.2.2⟩,this.2.1,this.2.2.2.2.1⟩
 clear hp hD a5;generalize q1r c now=D at *;generalize z6y { c with h:=c.h+1,t:=now }=DN at *
 generalize z2Z { c with h:=c.h+1,t:=now }=TK at *
 generalize z5t c=RC at *;have d4:=J6 (fun h=>q7n (n:=now) h);have R:=J6 (fun (N:World)=>z7d now N)
 go_enter func83,ntmps83
 go_upto_region 1 with fail
 change Code.wp prog _ _ _ ((w.alloc (J5 (csC c v) 75)).alloc (J5 Z22 75));generalize (w.alloc (J5 (csC c v) 75)).alloc (J5 Z22 75)=w0 at *
 by_cases U:RC=0
 rotate_left
 ·have q:=J6 (HD.out.trans (if_neg U));have e6:(RC != 0)=true:=by simpa using U
  go_upto_region 3 with (go_at_call 119;refine (a9.out _ HB.out).mono ?_;rintro e w1⟨rfl,s⟩;have a:=J6 (HB.out.over s);clear s;obtain⟨l1,s1⟩:=a.out.facts)
  go_wp2;exact a.out.z0D results83 _ _ q.out _ rfl rfl rfl
 subst U;have q:=J6 (HD.out.trans (if_pos rfl));clear HD;obtain⟨⟨e8,e9⟩,⟨f4,f5⟩,b5⟩:=b4.out rfl;have d5:=J6 b5;clear b4 b5
 go_upto_region 4 with (go_at_call 119;refine (a9.out _ HB.out).mono ?_;rintro e w1⟨rfl,s⟩;have a:=J6 (HB.out.over s);clear s)
 obtain⟨⟨-,-,a2,a3,-⟩,⟨-,a6,a7⟩,-⟩:=z0G a.out.C0;generalize isT now=T at *;cases T
 ·replace q:=J6 (q.out.trans (if_neg (by simp)))
  obtain⟨l1,s1⟩:=a.out.facts
  go_wp2_with (go_at_call 120;refine (R.out _).mono ?_;rintro e w'⟨rfl,rfl⟩)
  exact a.out.z0D results83 _ _ q.out _ rfl rfl rfl
 obtain⟨b6,b7⟩:=d4.out rfl
 by_cases B:c.t<=now
 rotate_left
 ·replace q:=J6 (q.out.trans (if_neg (fun h=>B h.2)));obtain⟨l1,s1⟩:=a.out.facts;have e7:now<c.t:=by omega
  go_wp2_with (go_at_call 120;refine (R.out _).mono ?_;rintro e w'⟨rfl,rfl⟩)
  exact a.out.z0D results83 _ _ q.out _ rfl rfl rfl
 replace q:=J6 (q.out.trans (if_pos ⟨rfl,B⟩));have d6:=J6 B;clear B;have B:c.t<=now:=d6.out
 go_upto_region 6 with (go_at_call 120;refine (R.out _).mono ?_;rintro e w'⟨rfl,rfl⟩)
 -- height,time,ripes
 obtain⟨l,Cr,er,-,b8,-,-⟩:=a.out.I0.rp.open (z0c _) (by decide)
 have E:=(a.out.I0.rp.room er).1;have F:l=none->c.rp.length=0:=fun h=>(b8 h).1;have G:(c.rp.length:Int)<4611686018427387904:=by have:=L.out;omega
 have f2:=a.out.C0.free 2;have f3:=a.out.C0.free 3;have f7:=a.out.C0.free 7;have d7:=a.out.C0.lt;have d8:Rep P w1 (J1 l c.rp.length c.rp.length) 2 8 (pwC c.rp):=by have:=a.out.I0.rp;rw[er]at this;exact this.clip
 rw[er]at a7;have C2:=((a.out.C0.set 2 (.int .i64 (c.h+1))).set 3 (.int .i64 now)).set 7 (J1 l c.rp.length c.rp.length);rw[j3K,j3M,q8J _ _ c.rp]at C2;have R2:=((a.out.R0.other (c:=w.heap.size) (o:=2) (by omega) (.int .i64 (c.h+1))).other (c:=w.heap.size) (o:=3) (by omega) (.int .i64 now)).other (c:=w.heap.size) (o:=7) (by omega) (J1 l c.rp.length c.rp.length)
 have B2:=((a.out.B0.setCell (p:=⟨w.heap.size,2,none⟩) (Nat.le_refl _) (.int .i64 (c.h+1))).setCell (p:=⟨w.heap.size,3,none⟩) (Nat.le_refl _) (.int .i64 now)).setCell (p:=⟨w.heap.size,7,none⟩) (Nat.le_refl _) (J1 l c.rp.length c.rp.length)
 have kN:∀ b,New P w 2 b->b<w1.heap.size->(((w1.setCell ⟨w.heap.size,2,none⟩ (.int .i64 (c.h+1))).setCell ⟨w.heap.size,3,none⟩ (.int .i64 now)).setCell ⟨w.heap.size,7,none⟩ (J1 l c.rp.length c.rp.length)).heap[b]?=w1.heap[b]?:=fun b hb _=>by
  have V:b≠w.heap.size:=fun e=>z6o P w (by rw[<- e];exact hb)
  rw[Below.heap_setCell _ _ _ _ V,Below.heap_setCell _ _ _ _ V,Below.heap_setCell _ _ _ _ V]
 have T2:z7j (New P w 2) (w.heap.size+2) none (((w1.setCell ⟨w.heap.size,2,none⟩ (.int .i64 (c.h+1))).setCell ⟨w.heap.size,3,none⟩ (.int .i64 now)).setCell ⟨w.heap.size,7,none⟩ (J1 l c.rp.length c.rp.length)) w.heap.size { c with h:=c.h+1,t:=now } { v with rp:=J1 l c.rp.length c.rp.length }:=by
  have W:=a.out.R0.lt;have n0:=a.out.N0;have f8:=a.out.I0;refine⟨C2,n0.set.keep kN,n0.pd.keep kN,.inl ⟨rfl,⟨l,rfl⟩,?_⟩,n0.said.keep kN,n0.due.keep kN,z6o P w,fun r e=>(by cases e),by simp[World.setCell];omega⟩
  have:Rep (New P w 2) w1 (J1 l c.rp.length c.rp.length) 2 8 (pwC c.rp):=by have:=n0.rp;rw[er]at this;exact this.clip
  exact this.keep kN
 have E2:EnR P w c v.pd { c with h:=c.h+1,t:=now } (((w1.setCell ⟨w.heap.size,2,none⟩ (.int .i64 (c.h+1))).setCell ⟨w.heap.size,3,none⟩ (.int .i64 now)).setCell ⟨w.heap.size,7,none⟩ (J1 l c.rp.length c.rp.length)):=⟨⟨_,none,_,T2,rfl,fun b hb=>hb,fun r e=>(by cases e)⟩,R2,B2⟩
 have b9:=J6 E2;clear E2 T2 kN B2 R2 C2 d8 b8
 go_upto_region 7 with fail
 go_upto_region 8 with fail
 go_upto_region 9 with (go_at_call 121;refine (q5Z l c.rp.length Cr E F G _).mono ?_;rintro e w'⟨rfl,rfl⟩)
 clear a2 a3 a6 a7 f2 f3 f7 d7 er E F G;generalize ((w1.setCell ⟨w.heap.size,2,none⟩ (.int .i64 (c.h+1))).setCell ⟨w.heap.size,3,none⟩ (.int .i64 now)).setCell ⟨w.heap.size,7,none⟩ (J1 l c.rp.length c.rp.length)=w2 at *
 obtain⟨Ap,Cp,ep⟩:∃ Ap Cp,v.pd=J1 Ap c.pd.length Cp:=by
  obtain⟨z,W,hr,-⟩:=a.out.I0.pd;obtain⟨A,C,e,-⟩:=hr.open (z0W _ _ W) (by decide)
  exact⟨A,C,e⟩
 have d9:=J6 ep
 have a6:w2.cell? ⟨w.heap.size,6,none⟩=some (J1 Ap c.pd.length Cp):=by
  obtain⟨⟨u,o,Q,t,e,-⟩,-⟩:=b9.out;rw[<- ep,<- e];exact t.cat.cell 6
 have e0:(c.pd.length:Int)<4611686018427387904:=by have:=L.out;omega
 clear ep
 go_upto_region 10 with fail
 clear a6
 go_loopw [37] (fun i wl=>∃ (k:Nat),k<=c.pd.length/\i=.int .i64 (k:Int)/\Hid (EnR P w c (J1 Ap c.pd.length Cp) ((c.pd.take k).foldl takeC { c with h:=c.h+1,t:=now }) wl)) (fun i _=>c.pd.length - (intOf i).toNat)
 case atStart=>exact⟨0,Nat.zero_le _,rfl,by have:=b9.out;rw[d9.out]at this;exact this⟩
 case round =>
  obtain⟨k,hk,rfl,HK⟩:=hrel
  by_cases X:k<c.pd.length
  ·have f9:(k:Int)<(c.pd.length:Int):=by omega
   obtain⟨⟨u,o,Q,T,eu,f,H⟩,RK,BK⟩:=HK.out;have tf:=z5e (c.pd.take k) { c with h:=c.h+1,t:=now }
   have c6:c.pd.take (k+1)=c.pd.take k ++ [c.pd[k]]:=List.take_succ_eq_append_getElem X;have K:(c.pd.take (k+1)).foldl takeC { c with h:=c.h+1,t:=now }=takeC ((c.pd.take k).foldl takeC { c with h:=c.h+1,t:=now }) c.pd[k]:=by rw[c6,List.foldl_append];rfl
   have M:z5C c.pd[k]=true:=(List.all_eq_true.1 d5.out) _ (List.getElem_mem X);have hx:c.pd[k]?=some c.pd[k]:=List.getElem?_eq_getElem X;have c7:((c.pd.take k).foldl takeC { c with h:=c.h+1,t:=now }).rp.length=c.rp.length+k:=by rw[tf.2.2];simp;omega
   have c8:=J6 K;generalize (c.pd.take k).foldl takeC { c with h:=c.h+1,t:=now }=d at *
   generalize c.pd[k]=x at *;obtain⟨Y,g,-⟩:=tf;dsimp only at Y g;obtain⟨z,W,hr,Z⟩:=T.pd;rw[Y]at W hr Z;obtain⟨A',C',e',-,-,c9,-⟩:=hr.open (z0W _ _ W) (by decide)
   rw[eu]at e';cases e';obtain⟨b,off,rfl,-,e3,hcell⟩:=c9 (by omega)
   have hy:z[k]?=some z[k]:=List.getElem?_eq_getElem (by omega)
   obtain⟨r1,r2⟩:=Z k x _ hx hy
   have cl:∀ j,j<6->∀ u',(pkL x z[k])[j]?=some u'->wr.cell? ⟨b,off+k * 6+j,none⟩=some u':=fun j hj u' hu=>by
    rw[Nat.add_assoc];exact hcell _ _ ((z4m c.pd z k x _ j hx hy hj).trans hu)
   have c0:=cl 0 (by omega) _ rfl
   have c1:=cl 1 (by omega) _ rfl
   have c2:=cl 2 (by omega) _ rfl
   have c3:=cl 3 (by omega) _ rfl
   have c4:=cl 4 (by omega) _ rfl
   have c5:=cl 5 (by omega) _ rfl
   rw[Nat.add_zero]at c0
   have d0:Cd.z0s x.k x.i x.v x.n x.S x.D=0:=by
    unfold z5C at M;simp only[Bool.and_eq_true,decide_eq_true_eq]at M;exact M.2
   have hD:=q0W x.D (-1) (z5Y d0).2;generalize z[k]=y at *;obtain⟨y1,y2⟩:=y;dsimp only at c4 c5 r1 r2;obtain⟨A1,n1,C1,e1,-⟩:=id r1;obtain⟨A2,n2,C2,e2,-⟩:=id r2;subst e1 e2;have a0:=J6 (fun (N:World) (hb:Bl wr N)=>q7b w.heap.size d u x (J1 A1 n1 C1) (J1 A2 n2 C2) Q (w.heap.size+2) o N (T.later hb) (r1.over hb) (r2.over hb) hD (by rw[c7];have:=L.out;omega) (by rw[g];exact b6) (by rw[g];exact b7))
   have bA:Bl wr (wr.alloc (J5 #[.int .i64 x.k,.int .i64 x.i,.int .i64 x.v,.int .i64 x.n,J1 A1 n1 C1,J1 A2 n2 C2] 68)):=znw wr _;have m:=J6 (show _/\_/\_/\_/\_ from⟨T.later bA,f,H,RK.over bA,zbt BK bA⟩);rw[eu]at a0;clear T RK BK f H Z hr W c9 hcell cl r1 r2 hD d0 M hx hy eu bA e3 c7 Y g K c6;obtain⟨xk,xi,xv,xn,xS,xD⟩:=x;dsimp only at c0 c1 c2 c3 a0 m
   go_upto_region 13 with (go_at_call 122;refine (a0.out _ (by exact znw wr _)).mono ?_;intro e w5 d1;have a1:=J6 (EnR.take (c:=c) m.out.1 m.out.2.1 m.out.2.2.1 m.out.2.2.2.1 m.out.2.2.2.2 d1);obtain rfl:=a1.out.1;clear d1)
   go_wp2
   first | exact⟨⟨k+1,by omega,by go_num,by rw[c8.out];exact a1.out.2⟩,by simp[intOf];omega⟩ | ((repeat apply Exists.intro);exact⟨⟨k+1,by omega,by go_num,by rw[c8.out];exact a1.out.2⟩,rfl⟩)
  ·obtain rfl:k=c.pd.length:=by omega
   rw[List.take_length,<- a8.out]at HK;have tf:=z5e c.pd { c with h:=c.h+1,t:=now }
   rw[<- a8.out]at tf;obtain⟨-,g,d2⟩:=tf;dsimp only at g d2;obtain⟨⟨u,o,Q,T,eu,f,H⟩,RK,BK⟩:=HK.out;have W:=RK.lt;have a6:wr.cell? ⟨w.heap.size,6,none⟩=some u.pd:=T.cat.cell 6;rw[eu]at a6;have f6:=T.cat.free 6;have e4:=T.cat.lt;have C5:=T.cat.set 6 (J1 none 0 0);rw[j2C _ _ []]at C5;have I5:CIn (New P w 2) wr { TK with pd:=[] } { u with pd:=J1 none 0 0 }:=⟨T.set.mono fun b _ hb=>f b hb,z6S.nil _ _,T.rp.rep (by rw[d2];exact L.out) (fun b _ hb=>f b hb) (fun b e=>.inr (H b e)),T.said.mono fun b _ hb=>f b hb,T.due.mono fun b _ hb=>f b hb⟩
   have I6:=I5.set1 (z6o P w) 6 (J1 none 0 0);have R6:=RK.other (c:=w.heap.size) (o:=6) (by omega) (J1 none 0 0)
   have B6:=BK.setCell (p:=⟨w.heap.size,6,none⟩) (Nat.le_refl _) (J1 none 0 0);have e5:(wr.setCell ⟨w.heap.size,6,none⟩ (J1 none 0 0)).heap.size=wr.heap.size:=by simp[World.setCell]
   have a4:=J6 (q1d w.heap.size { TK with pd:=[] } { u with pd:=J1 none 0 0 } (New P w 2) _ C5 I6 (z6o P w) (by show 0<=TK.t;rw[g];exact b6) (by show TK.t<=_;rw[g];exact b7))
   have HZ:=J6 (show _/\_ from⟨R6,B6⟩);clear C5 I5 I6 R6 B6 T RK BK f H eu
   go_upto_region 15 with fail
   clear a6 f6 e4;generalize wr.setCell ⟨w.heap.size,6,none⟩ (J1 none 0 0)=w6 at *;dsimp only at a4;rw[<- d3.out]at a4
   go_upto_region 16 with (go_at_call 123;refine a4.out.mono ?_;rintro e w7⟨v7,rfl,C7,I7,A7⟩)
   have R7:=A7.cat (by omega) HZ.out.1
   have B7:Bl w w7:=HZ.out.2.trans (A7.below (Nat.le_refl _) (by have:=HZ.out.2.size;omega))
   have N7:CIn (New P w 2) w7 DN v7:=I7.mono fun b _ h=>z7J (by rw[e5];omega) h
   have l7:=z2p C7 (z0i _ _);have s7:=z1C R7 z0p (z0i DN v7) (z1E N7);have HU:=J6 (show _/\_/\_ from⟨R7,B7,N7⟩);clear C7 R7 B7 N7 I7 A7;go_wp2;exact z5L results83 HU.out.1 z0p HU.out.2.1 _ _ 0 D q.out HU.out.2.2 _ rfl rfl rfl
end Kc
end Go.Proofs.YtddlhnoedldidaaGreat
