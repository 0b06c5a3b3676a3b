/- Parts of the proof. -/
import Derived.Test.YtddlhnoedldidaaGreatML
import Derived.Test.YtddlhnoedldidaaGreatMK20
import Derived.ChangeAlike
set_option maxRecDepth 100000
set_option maxHeartbeats 16000000
namespace Go.Proofs.YtddlhnoedldidaaGreat
open Go.Proofs.Tryz
open Value renaming int->J,slice->J1,pointer->J2,bool->J3,agg->J4
open IntKind renaming i64->I
open Obj renaming cells->J5
namespace Pv
open Go.RowKit
structure Lk where
 on:Bool
 gone:Bool
 base:Int
 told:List (Int×Int)
 fresh:Bool
 done:List Int
 out:Ln.Line
 h0:Int
 h1:Int
 h2:Int
 h3:Int
structure Pr where
 h:Int
 t:Int
 s:St
 set:List (Int×Int)
 L:Nat->Lk
 ml:Int
 mn:Int
 q:List (Int×Pkt)
structure LkV where
 told:Value
 done:Value
 said:Value
 due:Value
structure PrV where
 ws:Value
 set:Value
 l:Nat->LkV
 q:Value
def lkL(x:Lk)(v:LkV):List Value:=[J3 x.on,J3 x.gone,J I x.base,v.told,J3 x.fresh,v.done,v.said,v.due,J I x.out.g,J3 x.out.cl,J I x.h0,J I x.h1,J I x.h2,J I x.h3]
def prC(p:Pr)(v:PrV):Array Value:=(([J I p.h,J I p.t]:List Value) ++ ((stC p.s v.ws).toList ++ (v.set :: (lkL (p.L 0) (v.l 0) ++ (lkL (p.L 1) (v.l 1) ++ [J I p.ml,J I p.mn,v.q]))))).toArray
theorem z0b(p:Pr)(v:PrV):(prC p v).size=97:=rfl
def akL(x:Int×Pkt)(y:Value×Value):List Value:=[J I x.1,J I x.2.k,J I x.2.i,J I x.2.v,J I x.2.n,y.1,y.2]
def quL:List (Int×Pkt)->List (Value×Value)->List Value
 | x :: q,y :: z=>akL x y ++ quL q z
 | _,_=>[]
def q1Q(P:Nat->Prop)(w:World)(v:Value)(q:List (Int×Pkt)):Prop:=
 ∃ z:List (Value×Value),z.length=q.length/\Rep P w v 7 80 (quL q z)/\∀ (i:Nat) (x:Int×Pkt) (y:Value×Value),q[i]?=some x->z[i]?=some y->Rep P w y.1 2 16 (pwC x.2.S)/\Rep P w y.2 1 8 (inC x.2.D)
structure z5g(P:Nat->Prop)(w:World)(x:Lk)(v:LkV):Prop where
 told:Rep P w v.told 2 16 (pwC x.told)
 done:Rep P w v.done 1 8 (inC x.done)
 said:z0C P w v.said 1 16 (txC x.out.S)
 due:z0C P w v.due 1 8 (inC x.out.D)
structure PIn(P:Nat->Prop)(w:World)(p:Pr)(v:PrV):Prop where
 ws:Rep P w v.ws 8 64 (wsL p.s.W)
 set:Rep P w v.set 2 16 (pwC p.set)
 lk:∀ c,c<2->z5g P w (p.L c) (v.l c)
 q:q1Q P w v.q p.q
section
variable {P P':Nat->Prop} {w w':World}
theorem q1Q.mono{v:Value}{q:List (Int×Pkt)}(h:q1Q P w v q)(hp:∀ b,b<w.heap.size->P b->P' b):q1Q P' w v q:=by
 obtain⟨z,h1,h2,h3⟩:=h;exact⟨z,h1,h2.mono hp,fun i x y a c=>⟨(h3 i x y a c).1.mono hp,(h3 i x y a c).2.mono hp⟩⟩
theorem q1Q.keep{v:Value}{q:List (Int×Pkt)}(h:q1Q P w v q)(a:∀ b,P b->b<w.heap.size->w'.heap[b]?=w.heap[b]?):q1Q P w' v q:=by
 obtain⟨z,h1,h2,h3⟩:=h;exact⟨z,h1,h2.keep a,fun i x y c d=>⟨(h3 i x y c d).1.keep a,(h3 i x y c d).2.keep a⟩⟩
theorem z5g.mono{x:Lk}{v:LkV}(h:z5g P w x v)(hp:∀ b,b<w.heap.size->P b->P' b):z5g P' w x v:=⟨h.told.mono hp,h.done.mono hp,h.said.mono hp,h.due.mono hp⟩
theorem z5g.keep{x:Lk}{v:LkV}(h:z5g P w x v)(a:∀ b,P b->b<w.heap.size->w'.heap[b]?=w.heap[b]?):z5g P w' x v:=⟨h.told.keep a,h.done.keep a,h.said.keep a,h.due.keep a⟩
theorem PIn.mono{p:Pr}{v:PrV}(h:PIn P w p v)(hp:∀ b,b<w.heap.size->P b->P' b):PIn P' w p v:=⟨h.ws.mono hp,h.set.mono hp,fun c hc=>(h.lk c hc).mono hp,h.q.mono hp⟩
theorem PIn.keep{p:Pr}{v:PrV}(h:PIn P w p v)(a:∀ b,P b->b<w.heap.size->w'.heap[b]?=w.heap[b]?):PIn P w' p v:=⟨h.ws.keep a,h.set.keep a,fun c hc=>(h.lk c hc).keep a,h.q.keep a⟩
theorem PIn.over{p:Pr}{v:PrV}(h:PIn P w p v)(hb:Bl w w'):PIn P w' p v:=h.keep fun b _ a=>hb.block b a
end
end Pv
namespace Pv
open Go.RowKit
section
variable {P:Nat->Prop} {w w':World} {v:Value} {sz bts:Nat} {cs:List Value}
theorem Rep.z9Z{W:List Wt}(h:Rep P w v 8 64 (wsL W)):∃ A C b o,v=J1 A W.length C/\z2k w A b o W/\(A=none->C=0)/\(0<W.length->P b):=by
 obtain⟨A,n,C,h1,h2,h3,c,d⟩:=h;rw[z1f]at h2;have e:n=W.length:=by omega
 subst e
 rcases Nat.eq_zero_or_pos W.length with h0 | h0
 ·refine⟨A,C,0,0,h1,⟨fun h=>by omega,h3,fun i x a=>?_⟩,c.1,fun h=>by omega⟩
  have:=(List.getElem?_eq_some_iff.1 a).1;omega
 ·obtain⟨b,off,rfl,hp,_,hc⟩:=d h0;refine⟨_,C,b,off,h1,⟨fun _=>rfl,h3,fun i x a=>?_⟩,c.1,fun _=>hp⟩
  have k:∀ j,j<8->∀ u,(wtL x)[j]?=some u->w.cell? ⟨b,off+i * 8+j,none⟩=some u:=fun j f u hu=>by
   rw[Nat.add_assoc];exact hc _ _ ((z4h W i x j a f).trans hu)
  exact⟨k 0 (by omega) _ rfl,k 1 (by omega) _ rfl,k 2 (by omega) _ rfl,k 3 (by omega) _ rfl,k 4 (by omega) _ rfl,k 5 (by omega) _ rfl,k 6 (by omega) _ rfl,k 7 (by omega) _ rfl⟩
end
end Pv
section
open Go.RowKit
theorem z1F(s:St)(ao:Option Addr)(sb so c b:Nat)(v:Int)(w:World)(h:SAt w b (stC s (J1 ao s.W.length c)))(d:z2k w ao sb so s.W) :
  Calls prog 72 #[J2 (some ⟨b,0,none⟩),J I v] w fun e w'=>e=.returned (J I (z5P s v))/\Bl w w':=by
 have a:=h.range;have f:=z7I s ao sb so c w d;have g:=z6U v;unfold z5P;generalize z0m s=t1 at *;generalize isV v=t2 at *;clear h d
 go_enter func72,ntmps72
 go_upto_region 1 with fail
 apply wp_region_lit
 iterate 6 go_step
 refine wpList_load_mid rfl 43 _ rfl b 0 rfl _ _ a underlying43 rfl (by rw[z0x];rfl) ?_
 clear a
 go_wp2_with (first
  | (go_at_call 94;refine f.mono ?_;rintro e w1⟨rfl,i⟩)
  | (go_at_call 106;refine (g _).mono ?_;rintro e j⟨rfl,rfl⟩))
 all_goals (go_ret;refine⟨?_,i⟩;first | (simp_all;done) | (congr 1;congr 1;simp_all))
theorem z2q(s:St)(ao:Option Addr)(sb so c b:Nat)(d v:Int)(w:World)(h:SAt w b (stC s (J1 ao s.W.length c)))(a:z2k w ao sb so s.W) :
  Calls prog 98 #[J2 (some ⟨b,0,none⟩),J I d,J I v] w fun e w'=>e=.returned (J I (z0T s d v))/\Bl w w':=by
 have f:=z1F s ao sb so c b v w h a;have g:=z9g d;unfold z0T;generalize z5P s v=t1 at *;generalize isD d=t2 at *;clear h a
 go_enter func98,ntmps98
 go_wp2_with (first
  | (go_at_call 72;refine f.mono ?_;rintro e w1⟨rfl,i⟩)
  | (go_at_call 141;refine (g _).mono ?_;rintro e j⟨rfl,rfl⟩))
 all_goals (go_ret;refine⟨?_,i⟩;first | (simp_all;done) | (congr 1;congr 1;simp_all))
structure But(b:Nat)(w w':World):Prop where
 os:w'.os=w.os
 tape:w'.tape=w.tape
 output:w'.output=w.output
 size:w'.heap.size=w.heap.size
 block:∀ k,k≠b->w'.heap[k]?=w.heap[k]?
theorem But.refl(b:Nat)(w:World):But b w w:=⟨rfl,rfl,rfl,rfl,fun _ _=>rfl⟩
theorem But.set{b:Nat}{w w':World}(h:But b w w')(o:Nat)(v:Value):But b w (w'.setCell ⟨b,o,none⟩ v):=
 ⟨h.os,h.tape,h.output,(by simp[World.setCell];exact h.size),fun k a=>(Below.heap_setCell _ _ _ _ a).trans (h.block k a)⟩
theorem But.below{b B:Nat}{w w':World}(h:But b w w')(a:B<=b):Below B w w':=⟨h.os,h.tape,h.output,by rw[h.size];exact Nat.le_refl _,fun k c=>h.block k (by omega)⟩
theorem But.z1g{b c:Nat}{w w':World}{cs:Array Value}(h:But b w w')(hc:c≠b)(S:SAt w c cs):SAt w' c cs:=(h.block c hc).trans S
theorem q7z(s:St)(sl:Value)(v:Nat)(a:v<6)(x:Int):(stC s sl).setIfInBounds (7+v * 5) (J I x)=stC { s with V:=z1Q s.V v { s.V v with tok:=x } } sl:=by
 rcases (show v=0∨v=1∨v=2∨v=3∨v=4∨v=5 by omega) with rfl | rfl | rfl | rfl | rfl | rfl <;> rfl
theorem j6A(s:St)(sl:Value)(v:Nat)(a:v<6)(x:Int):(stC s sl).setIfInBounds (7+v * 5+1) (J I x)=stC { s with V:=z1Q s.V v { s.V v with sh:=x } } sl:=by
 rcases (show v=0∨v=1∨v=2∨v=3∨v=4∨v=5 by omega) with rfl | rfl | rfl | rfl | rfl | rfl <;> rfl
theorem j1P(s:St)(sl:Value)(v:Nat)(a:v<6)(x:Int):(stC s sl).setIfInBounds (7+v * 5+2) (J I x)=stC { s with V:=z1Q s.V v { s.V v with lost:=x } } sl:=by
 rcases (show v=0∨v=1∨v=2∨v=3∨v=4∨v=5 by omega) with rfl | rfl | rfl | rfl | rfl | rfl <;> rfl
theorem j1n(s:St)(sl:Value)(v:Nat)(a:v<6)(x:Bool):(stC s sl).setIfInBounds (7+v * 5+3) (J3 x)=stC { s with V:=z1Q s.V v { s.V v with jail:=x } } sl:=by
 rcases (show v=0∨v=1∨v=2∨v=3∨v=4∨v=5 by omega) with rfl | rfl | rfl | rfl | rfl | rfl <;> rfl
theorem j1c(s:St)(sl:Value)(v:Nat)(a:v<6)(x:Bool):(stC s sl).setIfInBounds (7+v * 5+4) (J3 x)=stC { s with V:=z1Q s.V v { s.V v with dead:=x } } sl:=by
 rcases (show v=0∨v=1∨v=2∨v=3∨v=4∨v=5 by omega) with rfl | rfl | rfl | rfl | rfl | rfl <;> rfl
theorem j5p(s:St)(sl:Value)(d v:Nat)(hd:d<4)(a:v<6)(x:Int):(stC s sl).setIfInBounds (37+d * 6+v) (J I x)=stC { s with S:=z6a s.S d v x } sl:=by
 rcases (show d=0∨d=1∨d=2∨d=3 by omega) with rfl | rfl | rfl | rfl <;> rcases (show v=0∨v=1∨v=2∨v=3∨v=4∨v=5 by omega) with rfl | rfl | rfl | rfl | rfl | rfl <;> rfl
theorem j0D(s:St)(sl:Value)(x:Int):(stC s sl).setIfInBounds 62 (J I x)=stC { s with next:=x } sl:=rfl
theorem q0u(s:St)(sl a:Value):(stC s sl).setIfInBounds 61 a=stC s a:=rfl
theorem q0A(V:Nat->Vd)(v:Nat)(x y:Vd):z1Q (z1Q V v x) v y=z1Q V v y:=by funext i;unfold z1Q;split <;> rfl
theorem z5W(V:Nat->Vd)(v:Nat)(x:Vd):z1Q V v x v=x:=if_pos rfl
theorem add_eq(s:St)(d v:Nat)(t n:Int):q3E s d v t n={ ({ ({ s with V:=z1Q s.V v { s.V v with tok:=(s.V v).tok+t } }:St) with V:=z1Q (z1Q s.V v { s.V v with tok:=(s.V v).tok+t }) v { (z1Q s.V v { s.V v with tok:=(s.V v).tok+t }) v with sh:=(s.V v).sh+n } }:St) with S:=z6a s.S d v (s.S d v+n) }:=by
 unfold q3E;rw[q0A,z5W]
theorem q8h(b:Nat)(w:World)(n:Nat):But b w (w.drewN n):=⟨rfl,rfl,rfl,rfl,fun _ _=>rfl⟩
theorem q3m(s:St)(sl:Value)(b d v:Nat)(t n:Int)(w:World)(h:SAt w b (stC s sl))(hd:d<4)(a:v<6)
  (h1:-4611686018427387904<=(s.V v).tok+t/\(s.V v).tok+t<=4611686018427387904) (h2:-4611686018427387904<=(s.V v).sh+n/\(s.V v).sh+n<=4611686018427387904) (h3:-4611686018427387904<=s.S d v+n/\s.S d v+n<=4611686018427387904) :
  Calls prog 102 #[J2 (some ⟨b,0,none⟩),J I (d:Int),J I (v:Int),J I t,J I n] w fun e w'=>e=.returned (.tuple #[])/\SAt w' b (stC (q3E s d v t n) sl)/\But b w w':=by
 have p:(d:Int)<4:=by omega
 have q:(v:Int)<6:=by omega
 have hd0:(0:Int)<=(d:Int):=by omega
 have r:(0:Int)<=(v:Int):=by omega
 go_enter func102,ntmps102
 go_upto_region 0 with fail
 go_quiet (fail);have j:SAt (w.drewN nq) b (stC s sl):=h;have c:Hid (But b w (w.drewN nq)):=q8h b w nq;generalize w.drewN nq=w0 at *;obtain⟨c0,c1,c2,c3,k⟩:=j.val v a;have f0:=j.free (7+v * 5)
 go_upto_region 2 with fail
 have f:=j.set (7+v * 5) (J I ((s.V v).tok+t));rw[q7z s sl v a]at f;have g:Hid (But b w (w0.setCell ⟨b,7+v * 5,none⟩ (J I ((s.V v).tok+t)))):=c.out.set _ _;generalize w0.setCell ⟨b,7+v * 5,none⟩ (J I ((s.V v).tok+t))=w1 at *;clear c0 c1 c2 c3 k f0 j c h;obtain⟨c0,c1,c2,c3,k⟩:=f.val v a;simp only[z5W]at c1;have f0:=f.free (7+v * 5+1)
 go_upto_region 3 with fail
 have i:=f.set (7+v * 5+1) (J I ((s.V v).sh+n));rw[j6A _ sl v a]at i;have l:Hid (But b w (w1.setCell ⟨b,7+v * 5+1,none⟩ (J I ((s.V v).sh+n)))):=g.out.set _ _;generalize w1.setCell ⟨b,7+v * 5+1,none⟩ (J I ((s.V v).sh+n))=w2 at *;clear c0 c1 c2 c3 k f0 f g;have c0:=i.shr d v hd a;have f0:=i.free (37+d * 6+v);have m:=i.set (37+d * 6+v) (J I (s.S d v+n));rw[j5p _ sl d v hd a]at m;have o:Hid (SAt (w2.setCell ⟨b,37+d * 6+v,none⟩ (J I (s.S d v+n))) b (stC (q3E s d v t n) sl)):=by rw[add_eq];exact m
 clear i m;go_wp2;go_end0;exact⟨rfl,o.out,l.out.set _ _⟩
theorem z4P{d:Func}{p q:Tmp}(h:d.results=#[.cell p 43,.tmp q])(a:Array Value)(w:World)(g:Nat)(cs:Array Value)(v:Value)
  (hp:a.getD p undef=J2 (some ⟨g,0,none⟩)) (e:a.getD q undef=v) (f:SAt w g cs) (b:cs.size=63) :
  (results d a).run prog w=.ok (.tuple #[J4 cs,v]) w:=by
 have hp':a[p]?.getD undef=J2 (some ⟨g,0,none⟩):=by simpa using hp
 have c:a[q]?.getD undef=v:=by simpa using e
 simp[results,h,hp',c,asAddr,run_loadVar_row w g 43 43 cs (0,0) _ f underlying43 rfl (by rw[z0x,b])]
theorem z0F{f:Func}{p q:Tmp}(a:f.results=#[.cell p 43,.tmp q]){B g:Nat}{w wq:World}{d:Array Value}(R:SAt wq g d)(h:d.size=63)(H:Below B w wq)(i:B<=g)(b:St)(sl:Value)(c:Int)(r:St×Int)(j:r=(b,c))(act:Act)
  (k:act.tmps.getD p undef=J2 (some ⟨g,0,none⟩)) (l:act.tmps.getD q undef=J I c) (hd:act.defers=[]) :
  bodyPost prog f (fun e w'=>e=.returned (.tuple #[J4 (stC r.1 sl),J I r.2])/\Below B w w') Exit.ret act (wq.setCells g 0 (stC b sl).toList):=by
 subst j;have m:=R.z0t (ds:=stC b sl) (by rw[h];rfl)
 exact bodyPost_ret (v:=.tuple #[J4 (stC b sl),J I c]) (z4P a _ _ g _ _ k l m rfl) hd ⟨rfl,z0a i _ _ _ H⟩
theorem z1D{ops:Array Oper}{rest:List Oper}{o:Oper}{a:Act}{w:World}{Q:Exit->Act->World->Prop}(d:o.guard=none)(x:Operand)(b:o.op=Op.move x)(e:wpList prog ops Q rest (a.put o.dst (a.eval x)) w) :
  wpList prog ops Q (o :: rest) a w:=by
 refine wpList_plain d fun _ c=>?_;unfold Oper.wp
 simp[execOp,b]
 exact c _ _ e
theorem z0q:Z63.size=63:=rfl
theorem z2H{b k o:Nat}(c:k≠b)(a:List Value)(p:Nat)(w:World):(w.setCells b p a).cell? ⟨k,o,none⟩=w.cell? ⟨k,o,none⟩:=World.cell?_of_block (w:=w) (z0M c a p w)
theorem z2k.sets{w:World}{ao:Option Addr}{b o g:Nat}{W:List Wt}(h:z2k w ao b o W)(d:0<W.length->b≠g)(e:List Value)(p:Nat):z2k (w.setCells g p e) ao b o W:=by
 refine⟨h.adr,h.len,fun i x c=>?_⟩;have a:b≠g:=d (by have:=(List.getElem?_eq_some_iff.1 c).1;omega)
 obtain⟨h0,h1,h2,h3,f,j,k,l⟩:=h.cell i x c;exact⟨(z2H a _ _ _).trans h0,(z2H a _ _ _).trans h1,(z2H a _ _ _).trans h2,(z2H a _ _ _).trans h3,(z2H a _ _ _).trans f,(z2H a _ _ _).trans j,(z2H a _ _ _).trans k,(z2H a _ _ _).trans l⟩
theorem z2k.but{w w':World}{ao:Option Addr}{b o g:Nat}{W:List Wt}(h:z2k w ao b o W)(hb:But g w w')(d:0<W.length->b≠g):z2k w' ao b o W:=by
 refine⟨h.adr,h.len,fun i x c=>?_⟩;have a:b≠g:=d (by have:=(List.getElem?_eq_some_iff.1 c).1;omega)
 have k:∀ o,w'.cell? ⟨b,o,none⟩=w.cell? ⟨b,o,none⟩:=fun o=>World.cell?_of_block (w:=w) (hb.block b a);obtain⟨h0,h1,h2,h3,e,f,j,l⟩:=h.cell i x c;exact⟨(k _).trans h0,(k _).trans h1,(k _).trans h2,(k _).trans h3,(k _).trans e,(k _).trans f,(k _).trans j,(k _).trans l⟩
theorem z8I(a b c:Int)(w:World)(d:a<=9223372036854775807)(b1:b<=9223372036854775807)(c1:c<=9223372036854775807) :
  Calls prog 143 #[J I a,J I b,J I c] w fun e w'=>e=.returned (.tuple #[J I (mdN a b c),J I (mdE a b c)])/\Bl w w':=Ra.j2r a b c d b1 c1 w
theorem z4f(a b c:Int):0<=mdN a b c/\mdN a b c<=1125899906842624:=by
 unfold mdN
 split
 ·omega
 ·rename_i h;have h0:0<=a * b:=Int.mul_nonneg (by omega) (by omega)
  have h1:0<=a * b / c:=Int.ediv_nonneg h0 (by omega)
  split <;> omega
theorem j6F(x:Vd)(n:Int):shN x n=if x.sh=0 then n else if x.tok=0 then 0 else if mdE n x.sh x.tok=0/\inA (x.sh+mdN n x.sh x.tok)=true then mdN n x.sh x.tok else 0:=rfl
theorem j6M(x:Vd)(n:Int):shE x n=if x.sh=0 then 0 else if x.tok=0 then 8 else if mdE n x.sh x.tok=0/\inA (x.sh+mdN n x.sh x.tok)=true then if mdN n x.sh x.tok=0 then 8 else 0 else 6:=rfl
theorem j6w(x:Vd)(n:Int):woN x n=if mdE n x.tok x.sh=0 then mdN n x.tok x.sh else 0:=rfl
theorem j7n(x:Vd)(n:Int):woE x n=if mdE n x.tok x.sh=0 then if mdN n x.tok x.sh=0 then 8 else 0 else mdE n x.tok x.sh:=rfl
theorem z9D(b o:Nat)(x:Vd)(n:Int)(w:World)(A:n<=1125899906842624)(i:vOk x=true)(h0:w.cell? ⟨b,o,none⟩=some (J I x.tok))(h1:w.cell? ⟨b,o+1,none⟩=some (J I x.sh)) :
  Calls prog 100 #[J2 (some ⟨b,o,none⟩),J I n] w fun e w'=>e=.returned (.tuple #[J I (shN x n),J I (shE x n)])/\Bl w w':=by
 obtain⟨k1,s,u⟩:=z2e i;rw[z0A]at k1 s u;have j:=fun w=>z8I n x.sh x.tok w (by omega) (by omega) (by omega)
 have k:=z4Z (x.sh+mdN n x.sh x.tok);have g:=J6 (j6F x n);have h:=J6 (j6M x n);have f:b<w.heap.size:=World.block_lt_of_cell? w _ h0;clear i;obtain⟨d,a,l,p,q⟩:=x;simp only at *;have hb:=z4f n a d;generalize shN ⟨d,a,l,p,q⟩ n=rN at *;generalize shE ⟨d,a,l,p,q⟩ n=rE at *;generalize mdN n a d=m at *;generalize mdE n a d=er at *;generalize inA (a+m)=t at *
 go_enter func100,ntmps100
 go_upto_region 5 with fail
 all_goals first
  | (go_ret2;refine⟨?_,Below.refl _ _⟩;have v:=g.out;have y:=h.out;simp_all;done)
  | skip
 go_region_held3 (fun r=>r.cell? ⟨b,o,none⟩=some (J I d)/\r.cell? ⟨b,o+1,none⟩=some (J I a)) (first | go_keep | (refine⟨?_,?_⟩ <;> (rw[c.cell f];simp[*])))
  (first | (go_at_call 143;refine (j _).mono ?_;rintro e w1⟨rfl,c⟩))
 rename_i hh;obtain⟨B,C⟩:=hh;have z:Hid (Bl w w1):=(Below.refl _ w).drew.trans c;clear c
 go_wp2_with (go_at_call 142;refine (k _).mono ?_;rintro e D⟨rfl,rfl⟩)
 all_goals (go_ret2;refine⟨?_,z.out⟩;have v:=g.out;have y:=h.out;clear g h j k;simp_all)
theorem q2p(b o:Nat)(x:Vd)(n:Int)(w:World)(u:n<=1125899906842624)(g:vOk x=true)(h0:w.cell? ⟨b,o,none⟩=some (J I x.tok))(h1:w.cell? ⟨b,o+1,none⟩=some (J I x.sh)) :
  Calls prog 103 #[J2 (some ⟨b,o,none⟩),J I n] w fun e w'=>e=.returned (.tuple #[J I (woN x n),J I (woE x n)])/\Bl w w':=by
 obtain⟨k1,r,s⟩:=z2e g;rw[z0A]at k1 r s;have h:=fun w=>z8I n x.tok x.sh w (by omega) (by omega) (by omega)
 have i:=J6 (j6w x n);have j:=J6 (j7n x n);have c:b<w.heap.size:=World.block_lt_of_cell? w _ h0;clear g;obtain⟨d,f,k,l,p⟩:=x;simp only at *;generalize woN ⟨d,f,k,l,p⟩ n=rN at *;generalize woE ⟨d,f,k,l,p⟩ n=rE at *;generalize mdN n d f=m at *;generalize mdE n d f=er at *
 go_enter func103,ntmps103
 go_upto_region 1 with fail
 go_region_held3 (fun q=>q.cell? ⟨b,o,none⟩=some (J I d)/\q.cell? ⟨b,o+1,none⟩=some (J I f)) (first | go_keep | (refine⟨?_,?_⟩ <;> (rw[a.cell c];simp[*])))
  (first | (go_at_call 143;refine (h _).mono ?_;rintro e w1⟨rfl,a⟩))
 rename_i hh;have t:Hid (Bl w w1):=(Below.refl _ w).drew.trans a;clear a hh;go_wp2
 all_goals (go_ret2;refine⟨?_,t.out⟩;have v:=i.out;have y:=j.out;clear i j h;simp_all)
def z5Q(s:St)(v:Nat)(j d:Bool):St:={ s with V:=z1Q s.V v { s.V v with jail:=j,dead:=d } }
theorem j5s(s:St)(sl:Value)(v:Nat)(a:v<6)(x:Bool):(stC s sl).setIfInBounds (7+v * 5+3) (J3 x)=stC (z5Q s v x (s.V v).dead) sl:=j1n s sl v a x
theorem j7w(s:St)(sl:Value)(v:Nat)(a:v<6)(j d x:Bool):(stC (z5Q s v j d) sl).setIfInBounds (7+v * 5+4) (J3 x)=stC (z5Q s v j x) sl:=by
 rw[j1c _ sl v a x];unfold z5Q;simp only[q0A,z5W]
def z9R(s:St)(v:Int):St×Int:=
 if z5P s v=0 then if (s.V v.toNat).jail=true then (s,14) else (z5Q s v.toNat true (s.V v.toNat).dead,0) else (s,z5P s v)
def z1G(s:St)(v:Int):St×Int:=
 if z5P s v=0 then if (s.V v.toNat).dead=true then (s,15) else if (s.V v.toNat).jail=true then (z5Q s v.toNat false false,0) else (s,4) else (s,z5P s v)
def z7S(s:St)(v:Int):St×Int:=
 if z5P s v=0 then if (s.V v.toNat).dead=true then (s,15) else (z5Q s v.toNat true true,0) else (s,z5P s v)
theorem z4q{s:St}{v:Int}(h:z5P s v=0):z0m s=true/\(0<=v/\v<6):=by
 unfold z5P at h
 repeat' split at h
 all_goals first | (simp_all [z2W];done) | omega
theorem z3A{s:St}{v:Nat}(a:z0m s=true)(b:v<6):z5P s v=0:=by
 unfold z5P;rw[a,z2W.2 (show (0:Int)<=v/\(v:Int)<6 by omega)]
 rfl
theorem j1N(s:St)(ao:Option Addr)(sb so c:Nat)(v:Int)(w:World)(f:z2k w ao sb so s.W)(r:St×Int)(h0:z5P s v≠0)(g:r=(s,z5P s v)) :
  Calls prog 173 #[J4 (stC s (J1 ao s.W.length c)),J I v] w fun e w'=>e=.returned (.tuple #[J4 (stC r.1 (J1 ao s.W.length c)),J I r.2])/\Bl w w':=by
 have a:=(SAt.new w (stC s (J1 ao s.W.length c))).alloc (J5 Z63 43);have RR:=SAt.new2 w (J5 (stC s (J1 ao s.W.length c)) 43) Z63;have b:Hid (Bl w ((w.alloc (J5 (stC s (J1 ao s.W.length c)) 43)).alloc (J5 Z63 43))):=(znw w _).alloc (by simp) _
 have i:=J6 f;have j:=J6 g;clear f g
 go_enter func173,ntmps173
 go_upto_region 1 with fail
 change Code.wp prog _ _ _ ((w.alloc (J5 (stC s (J1 ao s.W.length c)) 43)).alloc (J5 Z63 43));generalize (w.alloc (J5 (stC s (J1 ao s.W.length c)) 43)).alloc (J5 Z63 43)=w0 at *
 go_upto_region 2 with (go_at_call 72;refine (z1F s ao sb so c w.heap.size v _ a (by exact i.out.over b.out)).mono ?_;rintro e w1⟨rfl,h1⟩)
 have d:=J6 (zbt b.out h1);have k:=a.later h1 a.lt;have h:=RR.later h1 RR.lt;clear a RR h1 b
 go_upto_region 3 with fail
 apply wp_region_lit;refine wpList_load_mid rfl 43 _ rfl _ 0 rfl _ _ k.range underlying43 rfl (by rw[z0x];rfl) ?_
 refine z1D rfl _ rfl ?_;refine wpList_store_mid rfl 43 _ _ rfl _ 0 (stC s (J1 ao s.W.length c)) rfl rfl (h.there 0 _ (by rw[z0q,z0f];omega)) (by rw[z0x];rfl) (z0y _ _ _ _) ?_
 go_wp2;exact z0F results173 h rfl d.out (by omega) s _ _ r j.out _ rfl rfl rfl
theorem q7Z(s:St)(ao:Option Addr)(sb so c v:Nat)(w:World)(k:z2k w ao sb so s.W)(r:St×Int)(n:z0m s=true)(g:v<6)(h1:(s.V v).jail=true->r=(s,14))(h2:(s.V v).jail=false->r=((z5Q s v true (s.V v).dead),0)) :
  Calls prog 173 #[J4 (stC s (J1 ao s.W.length c)),J I (v:Int)] w fun e w'=>e=.returned (.tuple #[J4 (stC r.1 (J1 ao s.W.length c)),J I r.2])/\Bl w w':=by
 have f:=(SAt.new w (stC s (J1 ao s.W.length c))).alloc (J5 Z63 43);have RR:=SAt.new2 w (J5 (stC s (J1 ao s.W.length c)) 43) Z63;have h:Hid (Bl w ((w.alloc (J5 (stC s (J1 ao s.W.length c)) 43)).alloc (J5 Z63 43))):=(znw w _).alloc (by simp) _
 have o:=J6 k;have i:=J6 h1;have j:=J6 h2;have q:=z3A n g;have t:(v:Int)<6:=by omega
 have u:(0:Int)<=(v:Int):=by omega
 clear k h1 h2
 go_enter func173,ntmps173
 go_upto_region 1 with fail
 change Code.wp prog _ _ _ ((w.alloc (J5 (stC s (J1 ao s.W.length c)) 43)).alloc (J5 Z63 43));generalize (w.alloc (J5 (stC s (J1 ao s.W.length c)) 43)).alloc (J5 Z63 43)=w0 at *
 go_upto_region 2 with (go_at_call 72;refine (z1F s ao sb so c w.heap.size v _ f (by exact o.out.over h.out)).mono ?_;rintro e w1⟨rfl,h1⟩)
 have a:=J6 (zbt h.out h1);have b:=f.later h1 f.lt;have d:=RR.later h1 RR.lt;clear f RR h1 h;obtain⟨c0,c1,c2,c3,A⟩:=b.val v g;have x:w.heap.size+1<w1.heap.size:=d.lt;clear c0 c1 c2
 go_upto_region 7 with (first | ((fail_if_success (go_not_at_region 6));apply wp_region_lit;refine wpList_load_mid rfl 43 _ rfl _ 0 rfl _ _ b.range underlying43 rfl (by rw[z0x];rfl) ?_;refine wpList_store_mid rfl 43 _ _ rfl _ 0 (stC s (J1 ao s.W.length c)) rfl rfl (d.there 0 _ (by rw[z0q,z0f];omega)) (by rw[z0x];rfl) (z0y _ _ _ _) ?_))
 ·exact z0F results173 d rfl a.out (by omega) s _ _ r (i.out ‹(s.V v).jail=true›) _ rfl rfl rfl
 ·have y:=J6 (j.out ‹(s.V v).jail=false›);have f0:=b.free (7+v * 5+3);have l:=b.set (7+v * 5+3) (J3 true);rw[j5s _ _ v g]at l;have m:SAt (w1.setCell ⟨w.heap.size,7+v * 5+3,none⟩ (J3 true)) (w.heap.size+1) Z63:=(d.other (by omega) (J3 true):SAt _ _ _)
  have z:=J6 (a.out.setCell (p:=⟨w.heap.size,7+v * 5+3,none⟩) (Nat.le_refl _) (J3 true));clear b d a
  go_upto_region 8 with fail
  generalize (w1.setCell ⟨w.heap.size,7+v * 5+3,none⟩ (J3 true))=w9 at *;apply wp_region_lit;refine wpList_load_mid rfl 43 _ rfl _ 0 rfl _ _ l.range underlying43 rfl (by rw[z0x];rfl) ?_
  refine wpList_store_mid rfl 43 _ _ rfl _ 0 (stC (z5Q s v true (s.V v).dead) (J1 ao s.W.length c)) rfl rfl (m.there 0 _ (by rw[z0q,z0f];omega)) (by rw[z0x];rfl) (z0y _ _ _ _) ?_
  go_wp2;exact z0F results173 m rfl z.out (by omega) (z5Q s v true (s.V v).dead) (J1 ao s.W.length c) 0 r y.out _ rfl rfl rfl
theorem q6S(s:St)(ao:Option Addr)(sb so c:Nat)(v:Int)(w:World)(a:z2k w ao sb so s.W) :
  Calls prog 173 #[J4 (stC s (J1 ao s.W.length c)),J I v] w fun e w'=>e=.returned (.tuple #[J4 (stC (z9R s v).1 (J1 ao s.W.length c)),J I (z9R s v).2])/\Bl w w':=by
 by_cases h:z5P s v=0
 ·obtain⟨b,v0,v1⟩:=z4q h;obtain⟨v,rfl⟩:=Int.eq_ofNat_of_zero_le v0;exact q7Z s ao sb so c v w a _ b (by omega) (fun h1=>by rw[z9R,if_pos h];exact if_pos h1) (fun h1=>by rw[z9R,if_pos h];exact if_neg (by simp[h1]))
 ·exact j1N s ao sb so c v w a _ h (by unfold z9R;exact if_neg h)
theorem q5R(s:St)(ao:Option Addr)(sb so c:Nat)(v:Int)(w:World)(f:z2k w ao sb so s.W)(r:St×Int)(h0:z5P s v≠0)(g:r=(s,z5P s v)) :
  Calls prog 56 #[J4 (stC s (J1 ao s.W.length c)),J I v] w fun e w'=>e=.returned (.tuple #[J4 (stC r.1 (J1 ao s.W.length c)),J I r.2])/\Bl w w':=by
 have a:=(SAt.new w (stC s (J1 ao s.W.length c))).alloc (J5 Z63 43);have RR:=SAt.new2 w (J5 (stC s (J1 ao s.W.length c)) 43) Z63;have b:Hid (Bl w ((w.alloc (J5 (stC s (J1 ao s.W.length c)) 43)).alloc (J5 Z63 43))):=(znw w _).alloc (by simp) _
 have i:=J6 f;have j:=J6 g;clear f g
 go_enter func56,ntmps56
 go_upto_region 1 with fail
 change Code.wp prog _ _ _ ((w.alloc (J5 (stC s (J1 ao s.W.length c)) 43)).alloc (J5 Z63 43));generalize (w.alloc (J5 (stC s (J1 ao s.W.length c)) 43)).alloc (J5 Z63 43)=w0 at *
 go_upto_region 2 with (go_at_call 72;refine (z1F s ao sb so c w.heap.size v _ a (by exact i.out.over b.out)).mono ?_;rintro e w1⟨rfl,h1⟩)
 have d:=J6 (zbt b.out h1);have k:=a.later h1 a.lt;have h:=RR.later h1 RR.lt;clear a RR h1 b
 go_upto_region 3 with fail
 apply wp_region_lit;refine wpList_load_mid rfl 43 _ rfl _ 0 rfl _ _ k.range underlying43 rfl (by rw[z0x];rfl) ?_
 refine z1D rfl _ rfl ?_;refine wpList_store_mid rfl 43 _ _ rfl _ 0 (stC s (J1 ao s.W.length c)) rfl rfl (h.there 0 _ (by rw[z0q,z0f];omega)) (by rw[z0x];rfl) (z0y _ _ _ _) ?_
 go_wp2;exact z0F results56 h rfl d.out (by omega) s _ _ r j.out _ rfl rfl rfl
theorem q2b(s:St)(ao:Option Addr)(sb so c v:Nat)(w:World)(l:z2k w ao sb so s.W)(r:St×Int)(o:z0m s=true)(g:v<6)(h1:(s.V v).dead=true->r=(s,15))(h2:(s.V v).dead=false->(s.V v).jail=false->r=(s,4))(h3:(s.V v).dead=false->(s.V v).jail=true->r=((z5Q s v false false),0)) :
  Calls prog 56 #[J4 (stC s (J1 ao s.W.length c)),J I (v:Int)] w fun e w'=>e=.returned (.tuple #[J4 (stC r.1 (J1 ao s.W.length c)),J I r.2])/\Bl w w':=by
 have f:=(SAt.new w (stC s (J1 ao s.W.length c))).alloc (J5 Z63 43);have RR:=SAt.new2 w (J5 (stC s (J1 ao s.W.length c)) 43) Z63;have h:Hid (Bl w ((w.alloc (J5 (stC s (J1 ao s.W.length c)) 43)).alloc (J5 Z63 43))):=(znw w _).alloc (by simp) _
 have q:=J6 l;have i:=J6 h1;have j:=J6 h2;have k:=J6 h3;have t:=z3A o g;have u:(v:Int)<6:=by omega
 have x:(0:Int)<=(v:Int):=by omega
 clear l h1 h2 h3
 go_enter func56,ntmps56
 go_upto_region 1 with fail
 change Code.wp prog _ _ _ ((w.alloc (J5 (stC s (J1 ao s.W.length c)) 43)).alloc (J5 Z63 43));generalize (w.alloc (J5 (stC s (J1 ao s.W.length c)) 43)).alloc (J5 Z63 43)=w0 at *
 go_upto_region 2 with (go_at_call 72;refine (z1F s ao sb so c w.heap.size v _ f (by exact q.out.over h.out)).mono ?_;rintro e w1⟨rfl,h1⟩)
 have a:=J6 (zbt h.out h1);have d:=f.later h1 f.lt;have b:=RR.later h1 RR.lt;clear f RR h1 h;obtain⟨c0,c1,c2,c3,B⟩:=d.val v g;have y:w.heap.size+1<w1.heap.size:=b.lt;clear c0 c1 c2
 go_upto_region 9 with (first | ((fail_if_success (go_not_at_region 6));apply wp_region_lit;refine wpList_load_mid rfl 43 _ rfl _ 0 rfl _ _ d.range underlying43 rfl (by rw[z0x];rfl) ?_;refine wpList_store_mid rfl 43 _ _ rfl _ 0 (stC s (J1 ao s.W.length c)) rfl rfl (b.there 0 _ (by rw[z0q,z0f];omega)) (by rw[z0x];rfl) (z0y _ _ _ _) ?_) | ((fail_if_success (go_not_at_region 8));apply wp_region_lit;refine wpList_load_mid rfl 43 _ rfl _ 0 rfl _ _ d.range underlying43 rfl (by rw[z0x];rfl) ?_;refine wpList_store_mid rfl 43 _ _ rfl _ 0 (stC s (J1 ao s.W.length c)) rfl rfl (b.there 0 _ (by rw[z0q,z0f];omega)) (by rw[z0x];rfl) (z0y _ _ _ _) ?_))
 ·exact z0F results56 b rfl a.out (by omega) s _ _ r (i.out ‹(s.V v).dead=true›) _ rfl rfl rfl
 ·exact z0F results56 b rfl a.out (by omega) s _ _ r (j.out ‹(s.V v).dead=false› (by simpa using ‹(!(s.V v).jail)=true›)) _ rfl rfl rfl
 ·have z:=J6 (k.out ‹(s.V v).dead=false› (by simpa using ‹(!(s.V v).jail)=false›))
  have f0:=d.free (7+v * 5+3);have m:=d.set (7+v * 5+3) (J3 false);rw[j5s _ _ v g,‹(s.V v).dead=false›]at m;have n:SAt (w1.setCell ⟨w.heap.size,7+v * 5+3,none⟩ (J3 false)) (w.heap.size+1) Z63:=(b.other (by omega) (J3 false):SAt _ _ _)
  have A:=J6 (a.out.setCell (p:=⟨w.heap.size,7+v * 5+3,none⟩) (Nat.le_refl _) (J3 false));clear d b a
  go_upto_region 10 with fail
  generalize (w1.setCell ⟨w.heap.size,7+v * 5+3,none⟩ (J3 false))=w9 at *;apply wp_region_lit;refine wpList_load_mid rfl 43 _ rfl _ 0 rfl _ _ m.range underlying43 rfl (by rw[z0x];rfl) ?_
  refine wpList_store_mid rfl 43 _ _ rfl _ 0 (stC (z5Q s v false false) (J1 ao s.W.length c)) rfl rfl (n.there 0 _ (by rw[z0q,z0f];omega)) (by rw[z0x];rfl) (z0y _ _ _ _) ?_
  go_wp2;exact z0F results56 n rfl A.out (by omega) (z5Q s v false false) (J1 ao s.W.length c) 0 r z.out _ rfl rfl rfl
theorem q2o(s:St)(ao:Option Addr)(sb so c:Nat)(v:Int)(w:World)(a:z2k w ao sb so s.W) :
  Calls prog 56 #[J4 (stC s (J1 ao s.W.length c)),J I v] w fun e w'=>e=.returned (.tuple #[J4 (stC (z1G s v).1 (J1 ao s.W.length c)),J I (z1G s v).2])/\Bl w w':=by
 by_cases h:z5P s v=0
 ·obtain⟨b,v0,v1⟩:=z4q h;obtain⟨v,rfl⟩:=Int.eq_ofNat_of_zero_le v0;exact q2b s ao sb so c v w a _ b (by omega) (fun h1=>by rw[z1G,if_pos h];exact if_pos h1) (fun h1 h2=>by rw[z1G,if_pos h,if_neg (by simp[h1])];exact if_neg (by simp[h2])) (fun h1 h2=>by rw[z1G,if_pos h,if_neg (by simp[h1])];exact if_pos h2)
 ·exact q5R s ao sb so c v w a _ h (by unfold z1G;exact if_neg h)
theorem j1L(s:St)(ao:Option Addr)(sb so c:Nat)(v:Int)(w:World)(f:z2k w ao sb so s.W)(r:St×Int)(h0:z5P s v≠0)(g:r=(s,z5P s v)) :
  Calls prog 108 #[J4 (stC s (J1 ao s.W.length c)),J I v] w fun e w'=>e=.returned (.tuple #[J4 (stC r.1 (J1 ao s.W.length c)),J I r.2])/\Bl w w':=by
 have a:=(SAt.new w (stC s (J1 ao s.W.length c))).alloc (J5 Z63 43);have RR:=SAt.new2 w (J5 (stC s (J1 ao s.W.length c)) 43) Z63;have b:Hid (Bl w ((w.alloc (J5 (stC s (J1 ao s.W.length c)) 43)).alloc (J5 Z63 43))):=(znw w _).alloc (by simp) _
 have i:=J6 f;have j:=J6 g;clear f g
 go_enter func108,ntmps108
 go_upto_region 1 with fail
 change Code.wp prog _ _ _ ((w.alloc (J5 (stC s (J1 ao s.W.length c)) 43)).alloc (J5 Z63 43));generalize (w.alloc (J5 (stC s (J1 ao s.W.length c)) 43)).alloc (J5 Z63 43)=w0 at *
 go_upto_region 2 with (go_at_call 72;refine (z1F s ao sb so c w.heap.size v _ a (by exact i.out.over b.out)).mono ?_;rintro e w1⟨rfl,h1⟩)
 have d:=J6 (zbt b.out h1);have k:=a.later h1 a.lt;have h:=RR.later h1 RR.lt;clear a RR h1 b
 go_upto_region 3 with fail
 apply wp_region_lit;refine wpList_load_mid rfl 43 _ rfl _ 0 rfl _ _ k.range underlying43 rfl (by rw[z0x];rfl) ?_
 refine z1D rfl _ rfl ?_;refine wpList_store_mid rfl 43 _ _ rfl _ 0 (stC s (J1 ao s.W.length c)) rfl rfl (h.there 0 _ (by rw[z0q,z0f];omega)) (by rw[z0x];rfl) (z0y _ _ _ _) ?_
 go_wp2;exact z0F results108 h rfl d.out (by omega) s _ _ r j.out _ rfl rfl rfl
theorem q6u(s:St)(ao:Option Addr)(sb so c v:Nat)(w:World)(k:z2k w ao sb so s.W)(r:St×Int)(o:z0m s=true)(f:v<6)(h1:(s.V v).dead=true->r=(s,15))(h2:(s.V v).dead=false->r=((z5Q s v true true),0)) :
  Calls prog 108 #[J4 (stC s (J1 ao s.W.length c)),J I (v:Int)] w fun e w'=>e=.returned (.tuple #[J4 (stC r.1 (J1 ao s.W.length c)),J I r.2])/\Bl w w':=by
 have g:=(SAt.new w (stC s (J1 ao s.W.length c))).alloc (J5 Z63 43);have RR:=SAt.new2 w (J5 (stC s (J1 ao s.W.length c)) 43) Z63;have h:Hid (Bl w ((w.alloc (J5 (stC s (J1 ao s.W.length c)) 43)).alloc (J5 Z63 43))):=(znw w _).alloc (by simp) _
 have q:=J6 k;have i:=J6 h1;have j:=J6 h2;have t:=z3A o f;have u:(v:Int)<6:=by omega
 have x:(0:Int)<=(v:Int):=by omega
 clear k h1 h2
 go_enter func108,ntmps108
 go_upto_region 1 with fail
 change Code.wp prog _ _ _ ((w.alloc (J5 (stC s (J1 ao s.W.length c)) 43)).alloc (J5 Z63 43));generalize (w.alloc (J5 (stC s (J1 ao s.W.length c)) 43)).alloc (J5 Z63 43)=w0 at *
 go_upto_region 2 with (go_at_call 72;refine (z1F s ao sb so c w.heap.size v _ g (by exact q.out.over h.out)).mono ?_;rintro e w1⟨rfl,h1⟩)
 have a:=J6 (zbt h.out h1);have b:=g.later h1 g.lt;have d:=RR.later h1 RR.lt;clear g RR h1 h;obtain⟨c0,c1,c2,c3,B⟩:=b.val v f;have y:w.heap.size+1<w1.heap.size:=d.lt;clear c0 c1 c2
 go_upto_region 7 with (first | ((fail_if_success (go_not_at_region 6));apply wp_region_lit;refine wpList_load_mid rfl 43 _ rfl _ 0 rfl _ _ b.range underlying43 rfl (by rw[z0x];rfl) ?_;refine wpList_store_mid rfl 43 _ _ rfl _ 0 (stC s (J1 ao s.W.length c)) rfl rfl (d.there 0 _ (by rw[z0q,z0f];omega)) (by rw[z0x];rfl) (z0y _ _ _ _) ?_))
 ·exact z0F results108 d rfl a.out (by omega) s _ _ r (i.out ‹(s.V v).dead=true›) _ rfl rfl rfl
 ·have z:=J6 (j.out ‹(s.V v).dead=false›);have f0:=b.free (7+v * 5+3);have f1:=b.free (7+v * 5+4);have l:=b.set (7+v * 5+3) (J3 true);rw[j5s _ _ v f]at l;have m:=l.set (7+v * 5+4) (J3 true);rw[j7w _ _ v f]at m;have n:SAt ((w1.setCell ⟨w.heap.size,7+v * 5+3,none⟩ (J3 true)).setCell ⟨w.heap.size,7+v * 5+4,none⟩ (J3 true)) (w.heap.size+1) Z63:=((d.other (by omega) (J3 true):SAt _ _ _).other (by omega) (J3 true):SAt _ _ _)
  have A:=J6 ((a.out.setCell (p:=⟨w.heap.size,7+v * 5+3,none⟩) (Nat.le_refl _) (J3 true)).setCell (p:=⟨w.heap.size,7+v * 5+4,none⟩) (Nat.le_refl _) (J3 true));clear b d a
  go_upto_region 8 with fail
  generalize ((w1.setCell ⟨w.heap.size,7+v * 5+3,none⟩ (J3 true)).setCell ⟨w.heap.size,7+v * 5+4,none⟩ (J3 true))=w9 at *;apply wp_region_lit;refine wpList_load_mid rfl 43 _ rfl _ 0 rfl _ _ m.range underlying43 rfl (by rw[z0x];rfl) ?_
  refine wpList_store_mid rfl 43 _ _ rfl _ 0 (stC (z5Q s v true true) (J1 ao s.W.length c)) rfl rfl (n.there 0 _ (by rw[z0q,z0f];omega)) (by rw[z0x];rfl) (z0y _ _ _ _) ?_
  go_wp2;exact z0F results108 n rfl A.out (by omega) (z5Q s v true true) (J1 ao s.W.length c) 0 r z.out _ rfl rfl rfl
theorem q9b(s:St)(ao:Option Addr)(sb so c:Nat)(v:Int)(w:World)(a:z2k w ao sb so s.W) :
  Calls prog 108 #[J4 (stC s (J1 ao s.W.length c)),J I v] w fun e w'=>e=.returned (.tuple #[J4 (stC (z7S s v).1 (J1 ao s.W.length c)),J I (z7S s v).2])/\Bl w w':=by
 by_cases h:z5P s v=0
 ·obtain⟨b,v0,v1⟩:=z4q h;obtain⟨v,rfl⟩:=Int.eq_ofNat_of_zero_le v0;exact q6u s ao sb so c v w a _ b (by omega) (fun h1=>by rw[z7S,if_pos h];exact if_pos h1) (fun h1=>by rw[z7S,if_pos h];exact if_neg (by simp[h1]))
 ·exact j1L s ao sb so c v w a _ h (by unfold z7S;exact if_neg h)
def pwr(x:Vd):Int:=x.tok / 100
def z4L(V:Nat->Vd):Nat->List Pw
 | 0=>[]
 | k+1=>if (decide (0<pwr (V k)) && !(V k).jail)=true then z4L V k ++ [((k:Int),pwr (V k))] else z4L V k
def z7M(V:Nat->Vd):List Pw:=z2s ltV ((z2s ltP (z4L V 6)).take 4)
theorem z4R(V:Nat->Vd):∀ k,(z4L V k).length<=k
 | 0=>by simp[z4L]
 | k+1=>by
  have:=z4R V k;rw[z4L]
  split
  ·simp;omega
  ·omega
theorem z2g(lt:Pw->Pw->Bool)(l:List Pw):(z2s lt l).length=l.length:=z1O _ _ _
theorem z1K.take{w:World}{g:Nat}{l:List Pw}(h:z1K w g l)(n:Nat):z1K w g (l.take n):=by
 obtain⟨b,hc,c⟩:=h;exact⟨b,hc,fun i x a=>c i x (by rw[List.getElem?_take]at a;split at a;exact a;simp at a)⟩
theorem j0Y(s:St)(sl:Value)(w:World)(z:∀ k,k<6->inA (s.V k).tok=true) :
  Calls prog 79 #[J4 (stC s sl)] w fun e w'=>∃ v,e=.returned v/\j8p w' w.heap.size v (z7M s.V)/\Bl w w':=by
 obtain⟨i0,S,A,C,D⟩:=info_parts q6f;have t:=SAt.new w (stC s sl);have E:Hid (Bl w (w.alloc (J5 (stC s sl) 43))):=znw w _
 go_enter func79,ntmps79
 go_upto_region 1 with fail
 generalize w.alloc (J5 (stC s sl) 43)=w0 at *;have N:w.heap.size<w0.heap.size:=t.lt
 go_wp2_with fail
 go_loopw [3,7] (fun v i wl=>∃ k:Nat,k<=6/\i=J I (k:Int)/\z5F wl w0.heap.size v (z4L s.V k)/\Hid (Bl w0 wl)) (fun _ i _=>(6 - intOf i).toNat)
 case atStart=>exact⟨0,by omega,rfl,z5F.nil _ _,Below.refl _ _⟩
 case round =>
  obtain⟨k,hk,rfl,hown,o⟩:=hrel;have F:w0.heap.size<=wr.heap.size:=o.out.size
  by_cases q:k<6
  ·have P:=t.later o.out N;obtain⟨c0,c1,c2,c3,T⟩:=P.val k q;have U:(k:Int)<6:=by omega
   have W:=z0A.1 (z k q);have x:Hid (z4L s.V (k+1)=if (decide (0<pwr (s.V k)) && !(s.V k).jail)=true then z4L s.V k ++ [((k:Int),pwr (s.V k))] else z4L s.V k):=rfl;have Q:=z4R s.V k;have hp:pwr (s.V k)=(s.V k).tok / 100:=rfl;rw[hp]at x;clear c1 c2 T P hp;generalize (s.V k).jail=jj at *;generalize (s.V k).tok=tt at *
   go_wp2_with (at_builtin;refine wpList_append_own_at _ rfl _ _ 44 rfl w0.heap.size 65 i0 (J4 #[J I 0,J I 0]) 2 16 underlying44 S A C D rfl (by decide) _ _ _ rfl (World.ownsRow.alloc hown _) ⟨wr.heap.size,0,none⟩ 1 1 [J I (k:Int),J I (tt / 100)] rfl rfl (q2d _ _ _ _) (by intro u hu;simp at hu;rcases hu with rfl | rfl <;> rfl) (by unfold maxLen;omega) (by omega) (by simp;omega) ?_;intro v' w1 j l _ X)
   ·have hb:Bl w0 w1:=z5F.grow hown o.out l (Nat.le_refl _) F;have hc:z4L s.V (k+1)=z4L s.V k ++ [((k:Int),tt / 100)]:=by rw[x.out,if_pos (by simp_all)]
    refine⟨⟨k+1,by omega,by go_num,?_,hb⟩,by simp[intOf];omega⟩
    rw[hc];exact z5F.append j rfl
   ·have hc:z4L s.V (k+1)=z4L s.V k:=by rw[x.out,if_neg (by simp_all)]
    exact⟨⟨k+1,by omega,by go_num,by rw[hc];exact hown,o.out⟩,by simp[intOf];omega⟩
   ·have hc:z4L s.V (k+1)=z4L s.V k:=by rw[x.out,if_neg (by simp;intro h;omega)]
    exact⟨⟨k+1,by omega,by go_num,by rw[hc];exact hown,o.out⟩,by simp[intOf];omega⟩
  ·obtain rfl:k=6:=by omega
   have m:Hid (Bl w wr):=E.out.trans (o.out.mono (Nat.le_of_lt N));have G:=z4R s.V 6;have p:Hid (z7M s.V=z2s ltV ((z2s ltP (z4L s.V 6)).take 4)):=rfl
   rcases hown.row with⟨rfl,hnil⟩ | ⟨g,cap,rfl,hg,hrow,hcap,hmax⟩
   ·have b:Hid (z7M s.V=[]):=by rw[p.out,hnil];rfl
    clear hnil hown p t z
    go_wp2_with (go_at_call 112;refine (q5S _ _).mono ?_;rintro e w1⟨rfl,rfl⟩)
    go_ret;exact⟨_,rfl,.inl ⟨rfl,b.out⟩,m.out⟩
   ·have y:=j3I g cap (z4L s.V 6) wr hrow (by omega)
    rw[<- z2g ltP (z4L s.V 6)]at G hcap y ⊢;have H:=y;clear hrow hown t z H;generalize z2s ltP (z4L s.V 6)=L at *;unfold maxLen at hmax;have Y:(0:Int)<=(L.length:Int):=by omega
    have Z:(L.length:Int)<=(cap:Int):=by omega
    by_cases h4:L.length<=4
    ·have K:(L.length:Int)<=4:=by omega
     have b:Hid (z7M s.V=z2s ltV L):=by rw[p.out,List.take_of_length_le h4];exact rfl
     go_wp2_with (first
      | (go_at_call 112;have _m:=M;refine (q8u g cap L _ (by exact a.out.1) (by omega)).mono ?_;rintro e w2⟨rfl,c⟩;have d:=J6 c;clear c)
      | (go_at_call 112;refine y.mono ?_;rintro e w1⟨rfl,f⟩;have a:=J6 f;clear f;have M:True:=trivial))
     go_ret;have r:=a.out.2.size;refine⟨_,rfl,.inr ⟨g,cap,?_,by omega,by rw[b.out];exact d.out.1,by rw[b.out,z2g];exact hcap,by unfold maxLen;exact hmax⟩,?_⟩
     ·rw[b.out,z2g];rfl
     ·exact (m.out.trans (a.out.2.below (B:=w.heap.size) (by omega) (by omega))).trans (d.out.2.below (by omega) (by omega))
    ·have K:4<(L.length:Int):=by omega
     have n:(L.take 4).length=4:=by rw[List.length_take];omega
     have R:=fun w h=>q8u g cap (L.take 4) w h (by omega)
     rw[n]at R;have a0:(4:Int)<=(cap:Int):=by omega
     go_wp2_with (first
      | (go_at_call 112;have _m:=M;refine (R _ (by exact a.out.1.take 4)).mono ?_;rintro e w2⟨rfl,c⟩;have d:=J6 c;clear c)
      | (go_at_call 112;refine y.mono ?_;rintro e w1⟨rfl,f⟩;have a:=J6 f;clear f;have M:True:=trivial))
     go_ret;have r:=a.out.2.size;refine⟨_,rfl,.inr ⟨g,cap,?_,by omega,by rw[p.out];exact d.out.1,by rw[p.out,z2g,n];omega,by unfold maxLen;exact hmax⟩,?_⟩
     ·rw[p.out,z2g,n];rfl
     ·exact (m.out.trans (a.out.2.below (B:=w.heap.size) (by omega) (by omega))).trans (d.out.2.below (by omega) (by omega))
theorem j4J(w:World):Calls prog 52 #[] w fun e w'=>e=.returned (J4 #[J I 100000,J I 100000,J I 100000,J I 100000,J I 0,J I 0,J I 0])/\Bl w w':=by
 go_enter func52,ntmps52
 go_wp2;refine wp_loop_rounds 5 ?_
 iterate 5 (try (rw[rounds_succ];go_wp2))
 exact bodyPost_ret (v:=J4 #[J I 100000,J I 100000,J I 100000,J I 100000,J I 0,J I 0,J I 0]) (by simp[results,results52,go_sem]) rfl ⟨rfl,(znw w _).alloc (by simp) _⟩
end
namespace Df
open Go.RowKit
def QAt(w:World)(b:Nat)(P:Nat->Int):Prop:=w.heap[b]?=some (J5 #[J I (P 0),J I (P 1),J I (P 2),J I (P 3),J I (P 4),J I (P 5)] 39)
section
variable {w w':World} {b B:Nat} {P:Nat->Int}
theorem QAt.later(h:QAt w b P)(hb:Below B w w')(a:b<B):QAt w' b P:=(hb.block b a).trans h
theorem QAt.new(w:World)(P:Nat->Int):QAt (w.alloc (J5 #[J I (P 0),J I (P 1),J I (P 2),J I (P 3),J I (P 4),J I (P 5)] 39)) w.heap.size P:=heap_alloc_new _ _
theorem QAt.lt(h:QAt w b P):b<w.heap.size:=(Array.getElem?_eq_some_iff.1 h).1
theorem QAt.alloc(h:QAt w b P)(o:Obj):QAt (w.alloc o) b P:=(Below.heap_alloc _ _ _ h.lt).trans h
theorem QAt.facts(h:QAt w b P):(w.cell? ⟨b,0,none⟩=some (J I (P 0))/\w.cell? ⟨b,1,none⟩=some (J I (P 1))/\w.cell? ⟨b,2,none⟩=some (J I (P 2))/\w.cell? ⟨b,3,none⟩=some (J I (P 3))/\w.cell? ⟨b,4,none⟩=some (J I (P 4))/\w.cell? ⟨b,5,none⟩=some (J I (P 5)))/\(∀ k,w.frozen? ⟨b,k,none⟩=false):=by
 unfold QAt at h
 simp[World.cell?,World.frozen?,h]
theorem QAt.one(h:QAt w b P){k:Nat}(a:k<6):w.cell? ⟨b,k,none⟩=some (J I (P k)):=by
 obtain⟨⟨h0,h1,h2,h3,c,d⟩,-⟩:=h.facts
 rcases (show k=0∨k=1∨k=2∨k=3∨k=4∨k=5 by omega) with rfl | rfl | rfl | rfl | rfl | rfl <;> assumption
theorem QAt.put(h:QAt w b P){k:Nat}(a:k<6)(n:Int):QAt (w.setCell ⟨b,k,none⟩ (J I n)) b (q5T P ((k:Int),n)):=by
 unfold QAt at *;simp only[z4g a]
 rcases (show k=0∨k=1∨k=2∨k=3∨k=4∨k=5 by omega) with rfl | rfl | rfl | rfl | rfl | rfl <;> simp[World.setCell,Array.getElem?_modify,h]
end
theorem z3H(w:World)(b k:Nat)(u:Value)(o:Obj):w.grownBy ((w.setCell ⟨b,k,none⟩ u).alloc o).drew (some b):=
 have h:=(Below.refl 0 w).setCell (p:=⟨b,k,none⟩) (Nat.zero_le _) u
 ⟨h.os,h.tape,h.output,by show w.heap.size<=((w.setCell ⟨b,k,none⟩ u).alloc o).heap.size;simp,fun j c a=>(Below.heap_alloc (w.setCell ⟨b,k,none⟩ u) o j (by simpa using c)).trans (Below.heap_setCell _ _ _ _ (fun e=>a (by rw[e])))⟩
theorem z4W{w w1:World}{b:Nat}(h:w.grownBy w1 (some b)){B:Nat}(a:B<=b)(c:B<=w.heap.size):Below B w w1:=(Below.refl B w).grown h c (fun k d=>by cases d;exact a)
theorem z7i(b:Nat)(v n:Int)(P:Nat->Int)(w:World)(h:QAt w b P) :
  Calls prog 186 #[J2 (some ⟨b,0,none⟩),J4 #[J I v,J I n]] w fun e w'=>e=.returned (.tuple #[])/\QAt w' b (q5T P (v,n))/\w.grownBy w' (some b):=by
 have d:=z6U v;have h1:=h.alloc (J5 #[J I v,J I n] 65);have a:=World.grownBy_alloc w (J5 #[J I v,J I n] 65) (some b);have i:=h.lt
 by_cases c:0<=v/\v<6
 ·obtain⟨k,rfl⟩:=Int.eq_ofNat_of_zero_le c.1;have f:k<6:=by omega
  have j:(k:Int)<6:=by omega
  rw[show isV (k:Int)=true from z2W.2 c]at d;have hc:=h.one f;have l:=h.facts.2 k;have g:=J6 (show _/\_ from⟨(h.put f n).alloc (J5 #[J I (k:Int),J I n] 65),z3H w b k (J I n) (J5 #[J I (k:Int),J I n] 65)⟩);clear h1 a c h
  go_enter func186,ntmps186
  go_upto_region 2 with (go_at_call 106;refine (d _).mono ?_;rintro e w1⟨rfl,rfl⟩)
  go_region
  all_goals go_end0
  all_goals exact⟨rfl,g.out.1,g.out.2⟩
 ·rw[show isV v=false by simpa [isV] using c]at d
  have hp:q5T P (v,n)=P:=by unfold q5T;rw[if_neg c]
  rw[hp]
  go_enter func186,ntmps186
  go_wp2_with (go_at_call 106;refine (d _).mono ?_;rintro e w1⟨rfl,rfl⟩)
  go_end0;exact⟨rfl,h1,a⟩
structure PIn(w:World)(l:List Pw)(ao:Option Addr)(b off:Nat):Prop where
 len:l.length<=8796093022202
 adr:0<l.length->ao=some ⟨b,off,none⟩
 cells:∀ i,i<l.length->w.cell? ⟨b,off+i * 2,none⟩=some (J I (l.getD i (0,0)).1)/\w.cell? ⟨b,off+i * 2+1,none⟩=some (J I (l.getD i (0,0)).2)
theorem PIn.ltB{w:World}{l:List Pw}{ao:Option Addr}{b off:Nat}(h:PIn w l ao b off)(h0:0<l.length):b<w.heap.size:=World.block_lt_of_cell? w _ (h.cells 0 h0).1
theorem PIn.later{B:Nat}{w w':World}{l:List Pw}{ao:Option Addr}{b off:Nat}(h:PIn w l ao b off)(hb:Below B w w')(a:0<l.length->b<B):PIn w' l ao b off:=
 ⟨h.len,h.adr,fun i c=>⟨(hb.cell (p:=⟨b,off+i * 2,none⟩) (a (by omega))).trans (h.cells i c).1,(hb.cell (p:=⟨b,off+i * 2+1,none⟩) (a (by omega))).trans (h.cells i c).2⟩⟩
theorem PIn.over{w w':World}{l:List Pw}{ao:Option Addr}{b off:Nat}(h:PIn w l ao b off)(hb:Bl w w'):PIn w' l ao b off:=h.later hb h.ltB
def z3v(w:World)(b:Nat)(v0 v1 v2 v3 a c:Value):World:=(((((w.setCell ⟨b,0,none⟩ v0).setCell ⟨b,1,none⟩ v1).setCell ⟨b,2,none⟩ v2).setCell ⟨b,3,none⟩ v3).setCell ⟨b,4,none⟩ a).setCell ⟨b,5,none⟩ c
theorem j3G{w:World}{b:Nat}{R:Nat->Int}(h:QAt w b R)(P:Nat->Int):QAt (z3v w b (J I (P 0)) (J I (P 1)) (J I (P 2)) (J I (P 3)) (J I (P 4)) (J I (P 5))) b P:=by
 unfold QAt z3v at *
 simp[World.setCell,Array.getElem?_modify,h]
theorem z3z{B:Nat}{w0 w:World}{b:Nat}(v0 v1 v2 v3 c d:Value)(h:Below B w0 w)(a:B<=b):Below B w0 (z3v w b v0 v1 v2 v3 c d):=(((((h.setCell a _).setCell a _).setCell a _).setCell a _).setCell a _).setCell a _
theorem q0o(l:List Pw)(ao:Option Addr)(c b off:Nat)(w:World)(h:PIn w l ao b off) :
  Calls prog 156 #[J1 ao l.length c] w fun e w'=>e=.returned (J4 #[J I (z2u l 0),J I (z2u l 1),J I (z2u l 2),J I (z2u l 3),J I (z2u l 4),J I (z2u l 5)])/\Bl w w':=by
 have s:=h.len;have m:=J6 h;have o:=(QAt.new w z3C).alloc (J5 #[J I 0,J I 0,J I 0,J I 0,J I 0,J I 0] 39);have f:=QAt.new (w.alloc (J5 #[J I 0,J I 0,J I 0,J I 0,J I 0,J I 0] 39)) z3C;rw[show (w.alloc (J5 #[J I 0,J I 0,J I 0,J I 0,J I 0,J I 0] 39)).heap.size=w.heap.size+1 by simp]at f
 have t:Bl w ((w.alloc (J5 #[J I 0,J I 0,J I 0,J I 0,J I 0,J I 0] 39)).alloc (J5 #[J I 0,J I 0,J I 0,J I 0,J I 0,J I 0] 39)):=(znw w _).alloc (by simp) _
 dsimp only [z3C]at o f;clear h
 go_enter func156,ntmps156
 go_upto_region 2 with fail
 generalize ((w.alloc (J5 #[J I 0,J I 0,J I 0,J I 0,J I 0,J I 0] 39)).alloc (J5 #[J I 0,J I 0,J I 0,J I 0,J I 0,J I 0] 39))=w0 at *;have g:=J6 (show _/\_/\_ from⟨o,f,t⟩);clear o f t
 go_upto_region 3 with fail
 go_loopw [4] (fun i wl=>∃ k:Nat,k<=l.length/\i=J I ((k:Int) - 1)/\Hid (QAt wl w.heap.size (fun _=>0)/\QAt wl (w.heap.size+1) (z2u (l.drop k))/\Bl w wl)) (fun i _=>(intOf i+1).toNat)
 case atStart=>exact⟨l.length,Nat.le_refl _,rfl,g.out.1,by rw[List.drop_length];exact g.out.2.1,g.out.2.2⟩
 case round =>
  obtain⟨k,R,rfl,a⟩:=hrel;clear g
  by_cases h0:0<k
  ·obtain⟨j,rfl⟩:∃ j,k=j+1:=⟨k - 1,by omega⟩
   have u:j<l.length:=by omega
   have C:(j:Int)<(l.length:Int):=by omega
   obtain⟨c0,c1⟩:=(m.out.later a.out.2.2 m.out.ltB).cells j u;have D:=J6 (q5b l j u);have p:=m.out.adr (by omega)
   subst p;generalize l.getD j (0,0)=x at *;obtain⟨v,n⟩:=x;dsimp only at c0 c1;have E:(((j+1:Nat):Int) - 1)=(j:Int):=by omega
   rw[E]
   go_wp2_with (go_at_call 186;refine (z7i (w.heap.size+1) v n _ _ a.out.2.1).mono ?_;rintro e w1⟨rfl,y,z⟩;have q:=J6 y;have A:=J6 z;clear y z)
   refine⟨⟨j,by omega,rfl,(A.out.block _ a.out.1.lt (by simp)).trans a.out.1,by rw[D.out];exact q.out,a.out.2.2.trans (z4W A.out (by omega) a.out.2.2.size)⟩,by simp[intOf]⟩
  ·obtain rfl:k=0:=by omega
   have B:z2u (l.drop 0)=z2u l:=by rw[List.drop_zero]
   rw[B]at a;obtain⟨F,d⟩:∃ F,z2u l=F:=⟨_,rfl⟩;rw[d]at a;have r:=J6 d;clear B d;obtain⟨⟨c0,c1,c2,c3,S,T⟩,-⟩:=a.out.2.1.facts;obtain⟨⟨U,V,W,X,Y,Z⟩,G⟩:=a.out.1.facts;go_wp2;have q:=j3G a.out.1 F;have H:=z3z (b:=w.heap.size) (J I (F 0)) (J I (F 1)) (J I (F 2)) (J I (F 3)) (J I (F 4)) (J I (F 5)) a.out.2.2 (Nat.le_refl _)
   show bodyPost prog f156 _ Exit.ret _ (z3v wr w.heap.size (J I (F 0)) (J I (F 1)) (J I (F 2)) (J I (F 3)) (J I (F 4)) (J I (F 5)))
   generalize z3v wr w.heap.size (J I (F 0)) (J I (F 1)) (J I (F 2)) (J I (F 3)) (J I (F 4)) (J I (F 5))=w9 at *;obtain⟨⟨K,L,M,N,P,Q⟩,-⟩:=q.facts;exact bodyPost_ret (v:=J4 #[J I (F 0),J I (F 1),J I (F 2),J I (F 3),J I (F 4),J I (F 5)]) (by simp[results,results156,go_sem,K,L,M,N,P,Q]) rfl ⟨by rw[r.out],H⟩
end Df
end Go.Proofs.YtddlhnoedldidaaGreat
