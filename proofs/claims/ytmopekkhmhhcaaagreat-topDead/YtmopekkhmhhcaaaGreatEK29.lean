/- Parts of the proof. -/
import Derived.Test.YtmopekkhmhhcaaaGreatEL
import Derived.Test.YtmopekkhmhhcaaaGreatEK18
import Derived.ChangeAlike
set_option maxRecDepth 100000
set_option maxHeartbeats 16000000
namespace Go.Proofs.YtmopekkhmhhcaaaGreat
open Go.Proofs.Tryz
namespace Pv
open Go.RowKit
structure Lk where
 on:Bool
 gone:Bool
 base:Int
 told:List (Int×Int)
 fresh:Bool
 done:List Int
 out:Ln.Line
 h0:Int
 h1:Int
 h2:Int
 h3:Int
structure Pr where
 h:Int
 t:Int
 s:St
 set:List (Int×Int)
 L:Nat->Lk
 ml:Int
 mn:Int
 q:List (Int×Pkt)
structure LkV where
 told:Value
 done:Value
 said:Value
 due:Value
structure PrV where
 ws:Value
 set:Value
 l:Nat->LkV
 q:Value
def lkL(x:Lk)(v:LkV):List Value:=[.bool x.on,.bool x.gone,.int .i64 x.base,v.told,.bool x.fresh,v.done,v.said,v.due,.int .i64 x.out.g,.bool x.out.cl,.int .i64 x.h0,.int .i64 x.h1,.int .i64 x.h2,.int .i64 x.h3]
def prC(p:Pr)(v:PrV):Array Value:=(([.int .i64 p.h,.int .i64 p.t]:List Value) ++ ((stC p.s v.ws).toList ++ (v.set :: (lkL (p.L 0) (v.l 0) ++ (lkL (p.L 1) (v.l 1) ++ [.int .i64 p.ml,.int .i64 p.mn,v.q]))))).toArray
theorem z0b(p:Pr)(v:PrV):(prC p v).size=97:=rfl
def akL(x:Int×Pkt)(y:Value×Value):List Value:=[.int .i64 x.1,.int .i64 x.2.k,.int .i64 x.2.i,.int .i64 x.2.v,.int .i64 x.2.n,y.1,y.2]
def quL:List (Int×Pkt)->List (Value×Value)->List Value
 | x :: q,y :: z=>akL x y ++ quL q z
 | _,_=>[]
def q2S(P:Nat->Prop)(w:World)(v:Value)(q:List (Int×Pkt)):Prop:=
 ∃ z:List (Value×Value),z.length=q.length/\Rep P w v 7 80 (quL q z)/\∀ (i:Nat) (x:Int×Pkt) (y:Value×Value),q[i]?=some x->z[i]?=some y->Rep P w y.1 2 16 (pwC x.2.S)/\Rep P w y.2 1 8 (inC x.2.D)
structure z5r(P:Nat->Prop)(w:World)(x:Lk)(v:LkV):Prop where
 told:Rep P w v.told 2 16 (pwC x.told)
 done:Rep P w v.done 1 8 (inC x.done)
 said:z0I P w v.said 1 16 (txC x.out.S)
 due:z0I P w v.due 1 8 (inC x.out.D)
structure PIn(P:Nat->Prop)(w:World)(p:Pr)(v:PrV):Prop where
 ws:Rep P w v.ws 8 64 (wsL p.s.W)
 set:Rep P w v.set 2 16 (pwC p.set)
 lk:∀ c,c<2->z5r P w (p.L c) (v.l c)
 q:q2S P w v.q p.q
section
variable {P P':Nat->Prop} {w w':World}
theorem q2S.mono{v:Value}{q:List (Int×Pkt)}(h:q2S P w v q)(hp:∀ b,b<w.heap.size->P b->P' b):q2S P' w v q:=by
 obtain ⟨z,h1,h2,h3⟩:=h;exact ⟨z,h1,h2.mono hp,fun i x y hx hy=>⟨(h3 i x y hx hy).1.mono hp,(h3 i x y hx hy).2.mono hp⟩⟩
theorem q2S.keep{v:Value}{q:List (Int×Pkt)}(h:q2S P w v q)(hk:∀ b,P b->b<w.heap.size->w'.heap[b]?=w.heap[b]?):q2S P w' v q:=by
 obtain ⟨z,h1,h2,h3⟩:=h;exact ⟨z,h1,h2.keep hk,fun i x y hx hy=>⟨(h3 i x y hx hy).1.keep hk,(h3 i x y hx hy).2.keep hk⟩⟩
theorem z5r.mono{x:Lk}{v:LkV}(h:z5r P w x v)(hp:∀ b,b<w.heap.size->P b->P' b):z5r P' w x v:=⟨h.told.mono hp,h.done.mono hp,h.said.mono hp,h.due.mono hp⟩
theorem z5r.keep{x:Lk}{v:LkV}(h:z5r P w x v)(hk:∀ b,P b->b<w.heap.size->w'.heap[b]?=w.heap[b]?):z5r P w' x v:=⟨h.told.keep hk,h.done.keep hk,h.said.keep hk,h.due.keep hk⟩
theorem PIn.mono{p:Pr}{v:PrV}(h:PIn P w p v)(hp:∀ b,b<w.heap.size->P b->P' b):PIn P' w p v:=⟨h.ws.mono hp,h.set.mono hp,fun c hc=>(h.lk c hc).mono hp,h.q.mono hp⟩
theorem PIn.keep{p:Pr}{v:PrV}(h:PIn P w p v)(hk:∀ b,P b->b<w.heap.size->w'.heap[b]?=w.heap[b]?):PIn P w' p v:=⟨h.ws.keep hk,h.set.keep hk,fun c hc=>(h.lk c hc).keep hk,h.q.keep hk⟩
theorem PIn.over{p:Pr}{v:PrV}(h:PIn P w p v)(hb:Below w.heap.size w w'):PIn P w' p v:=h.keep fun b _ hlt=>hb.block b hlt
end
end Pv
namespace Pv
open Go.RowKit
section
variable {P:Nat->Prop} {w w':World} {v:Value} {sz bts:Nat} {cs:List Value}
theorem Rep.z9U{W:List Wt}(h:Rep P w v 8 64 (wsL W)):∃ A C b o,v=.slice A W.length C/\z2h w A b o W/\(A=none->C=0)/\(0<W.length->P b):=by
 obtain ⟨A,n,C,h1,h2,h3,h4,h5⟩:=h;rw[z1w]at h2;have e:n=W.length:=by omega
 subst e
 rcases Nat.eq_zero_or_pos W.length with h0 | h0
 ·refine ⟨A,C,0,0,h1,⟨fun h=>by omega,h3,fun i x hx=>?_⟩,h4.1,fun h=>by omega⟩
  have:=(List.getElem?_eq_some_iff.1 hx).1;omega
 ·obtain ⟨b,off,rfl,hp,_,hc⟩:=h5 h0;refine ⟨_,C,b,off,h1,⟨fun _=>rfl,h3,fun i x hx=>?_⟩,h4.1,fun _=>hp⟩
  have k:∀ j,j<8->∀ u,(wtL x)[j]?=some u->w.cell? ⟨b,off+i * 8+j,none⟩=some u:=fun j hj u hu=>by
   rw[Nat.add_assoc];exact hc _ _ ((z5d W i x j hx hj).trans hu)
  exact ⟨k 0 (by omega) _ rfl,k 1 (by omega) _ rfl,k 2 (by omega) _ rfl,k 3 (by omega) _ rfl,k 4 (by omega) _ rfl,k 5 (by omega) _ rfl,k 6 (by omega) _ rfl,k 7 (by omega) _ rfl⟩
end
end Pv
section
open Go.RowKit
theorem z1G(s:St)(ao:Option Addr)(sb so c b:Nat)(v:Int)(w:World)(h:SAt w b (stC s (.slice ao s.W.length c)))(hW:z2h w ao sb so s.W) :
  Calls prog 79 #[.pointer (some ⟨b,0,none⟩),.int .i64 v] w fun e w'=>e=.returned (.int .i64 (z6n s v))/\Below w.heap.size w w':=by
 have hrg:=h.range;have hG:=z5k s ao sb so c w hW;have hV:=z7s v;unfold z6n;generalize z0k s=t1 at *;generalize isV v=t2 at *;clear h hW
 go_enter func79,ntmps79
 go_upto_region 1 with fail
 apply wp_region_lit
 iterate 6 go_step
 refine wpList_load_mid rfl 43 _ rfl b 0 rfl _ _ hrg underlying43 rfl (by rw[z0x];rfl) ?_
 clear hrg
 go_wp2_with (first
  | (go_at_call 100;refine hG.mono ?_;rintro e w1 ⟨rfl,hB⟩)
  | (go_at_call 48;refine (hV _).mono ?_;rintro e w2 ⟨rfl,rfl⟩))
 all_goals (go_ret;refine ⟨?_,hB⟩;first | (simp_all;done) | (congr 1;congr 1;simp_all))
theorem z2o(s:St)(ao:Option Addr)(sb so c b:Nat)(d v:Int)(w:World)(h:SAt w b (stC s (.slice ao s.W.length c)))(hW:z2h w ao sb so s.W) :
  Calls prog 104 #[.pointer (some ⟨b,0,none⟩),.int .i64 d,.int .i64 v] w fun e w'=>e=.returned (.int .i64 (z0S s d v))/\Below w.heap.size w w':=by
 have hG:=z1G s ao sb so c b v w h hW;have hV:=z8s d;unfold z0S;generalize z6n s v=t1 at *;generalize isD d=t2 at *;clear h hW
 go_enter func104,ntmps104
 go_wp2_with (first
  | (go_at_call 79;refine hG.mono ?_;rintro e w1 ⟨rfl,hB⟩)
  | (go_at_call 146;refine (hV _).mono ?_;rintro e w2 ⟨rfl,rfl⟩))
 all_goals (go_ret;refine ⟨?_,hB⟩;first | (simp_all;done) | (congr 1;congr 1;simp_all))
structure But(b:Nat)(w w':World):Prop where
 os:w'.os=w.os
 tape:w'.tape=w.tape
 output:w'.output=w.output
 size:w'.heap.size=w.heap.size
 block:∀ k,k≠b->w'.heap[k]?=w.heap[k]?
theorem But.refl(b:Nat)(w:World):But b w w:=⟨rfl,rfl,rfl,rfl,fun _ _=>rfl⟩
theorem But.set{b:Nat}{w w':World}(h:But b w w')(o:Nat)(v:Value):But b w (w'.setCell ⟨b,o,none⟩ v):=
 ⟨h.os,h.tape,h.output,(by simp[World.setCell];exact h.size),fun k hk=>(Below.heap_setCell _ _ _ _ hk).trans (h.block k hk)⟩
theorem But.below{b B:Nat}{w w':World}(h:But b w w')(hB:B<=b):Below B w w':=⟨h.os,h.tape,h.output,by rw[h.size];exact Nat.le_refl _,fun k hk=>h.block k (by omega)⟩
theorem But.z0Z{b c:Nat}{w w':World}{cs:Array Value}(h:But b w w')(hc:c≠b)(S:SAt w c cs):SAt w' c cs:=(h.block c hc).trans S
theorem q9n(s:St)(sl:Value)(v:Nat)(hv:v<6)(x:Int):(stC s sl).setIfInBounds (7+v * 5) (.int .i64 x)=stC { s with V:=z1J s.V v { s.V v with tok:=x } } sl:=by
 rcases (show v=0∨v=1∨v=2∨v=3∨v=4∨v=5 by omega) with rfl | rfl | rfl | rfl | rfl | rfl <;> rfl
theorem j6x(s:St)(sl:Value)(v:Nat)(hv:v<6)(x:Int):(stC s sl).setIfInBounds (7+v * 5+1) (.int .i64 x)=stC { s with V:=z1J s.V v { s.V v with sh:=x } } sl:=by
 rcases (show v=0∨v=1∨v=2∨v=3∨v=4∨v=5 by omega) with rfl | rfl | rfl | rfl | rfl | rfl <;> rfl
theorem j1b(s:St)(sl:Value)(v:Nat)(hv:v<6)(x:Int):(stC s sl).setIfInBounds (7+v * 5+2) (.int .i64 x)=stC { s with V:=z1J s.V v { s.V v with lost:=x } } sl:=by
 rcases (show v=0∨v=1∨v=2∨v=3∨v=4∨v=5 by omega) with rfl | rfl | rfl | rfl | rfl | rfl <;> rfl
theorem j1g(s:St)(sl:Value)(v:Nat)(hv:v<6)(x:Bool):(stC s sl).setIfInBounds (7+v * 5+3) (.bool x)=stC { s with V:=z1J s.V v { s.V v with jail:=x } } sl:=by
 rcases (show v=0∨v=1∨v=2∨v=3∨v=4∨v=5 by omega) with rfl | rfl | rfl | rfl | rfl | rfl <;> rfl
theorem j0T(s:St)(sl:Value)(v:Nat)(hv:v<6)(x:Bool):(stC s sl).setIfInBounds (7+v * 5+4) (.bool x)=stC { s with V:=z1J s.V v { s.V v with dead:=x } } sl:=by
 rcases (show v=0∨v=1∨v=2∨v=3∨v=4∨v=5 by omega) with rfl | rfl | rfl | rfl | rfl | rfl <;> rfl
theorem j4g(s:St)(sl:Value)(d v:Nat)(hd:d<4)(hv:v<6)(x:Int):(stC s sl).setIfInBounds (37+d * 6+v) (.int .i64 x)=stC { s with S:=z6v s.S d v x } sl:=by
 rcases (show d=0∨d=1∨d=2∨d=3 by omega) with rfl | rfl | rfl | rfl <;> rcases (show v=0∨v=1∨v=2∨v=3∨v=4∨v=5 by omega) with rfl | rfl | rfl | rfl | rfl | rfl <;> rfl
theorem j0b(s:St)(sl:Value)(x:Int):(stC s sl).setIfInBounds 62 (.int .i64 x)=stC { s with next:=x } sl:=rfl
theorem q0C(s:St)(sl sl':Value):(stC s sl).setIfInBounds 61 sl'=stC s sl':=rfl
theorem q0W(V:Nat->Vd)(v:Nat)(x y:Vd):z1J (z1J V v x) v y=z1J V v y:=by funext i;unfold z1J;split <;> rfl
theorem z5Z(V:Nat->Vd)(v:Nat)(x:Vd):z1J V v x v=x:=if_pos rfl
theorem add_eq(s:St)(d v:Nat)(t n:Int):q3x s d v t n={ ({ ({ s with V:=z1J s.V v { s.V v with tok:=(s.V v).tok+t } }:St) with V:=z1J (z1J s.V v { s.V v with tok:=(s.V v).tok+t }) v { (z1J s.V v { s.V v with tok:=(s.V v).tok+t }) v with sh:=(s.V v).sh+n } }:St) with S:=z6v s.S d v (s.S d v+n) }:=by
 unfold q3x;rw[q0W,z5Z]
theorem q9f(b:Nat)(w:World)(n:Nat):But b w (w.drewN n):=⟨rfl,rfl,rfl,rfl,fun _ _=>rfl⟩
theorem q3d(s:St)(sl:Value)(b d v:Nat)(t n:Int)(w:World)(h:SAt w b (stC s sl))(hd:d<4)(hv:v<6)
  (h1:-4611686018427387904<=(s.V v).tok+t/\(s.V v).tok+t<=4611686018427387904) (h2:-4611686018427387904<=(s.V v).sh+n/\(s.V v).sh+n<=4611686018427387904) (h3:-4611686018427387904<=s.S d v+n/\s.S d v+n<=4611686018427387904) :
  Calls prog 108 #[.pointer (some ⟨b,0,none⟩),.int .i64 (d:Int),.int .i64 (v:Int),.int .i64 t,.int .i64 n] w fun e w'=>e=.returned (.tuple #[])/\SAt w' b (stC (q3x s d v t n) sl)/\But b w w':=by
 have hd':(d:Int)<4:=by omega
 have hv':(v:Int)<6:=by omega
 have hd0:(0:Int)<=(d:Int):=by omega
 have hv0:(0:Int)<=(v:Int):=by omega
 go_enter func108,ntmps108
 go_upto_region 0 with fail
 go_quiet (fail);have S0:SAt (w.drewN nq) b (stC s sl):=h;have HB0:Hid (But b w (w.drewN nq)):=q9f b w nq;generalize w.drewN nq=w0 at *;obtain ⟨c0,c1,c2,c3,c4⟩:=S0.val v hv;have f0:=S0.free (7+v * 5)
 go_upto_region 2 with fail
 have S1:=S0.set (7+v * 5) (.int .i64 ((s.V v).tok+t));rw[q9n s sl v hv]at S1;have HB1:Hid (But b w (w0.setCell ⟨b,7+v * 5,none⟩ (.int .i64 ((s.V v).tok+t)))):=HB0.out.set _ _;generalize w0.setCell ⟨b,7+v * 5,none⟩ (.int .i64 ((s.V v).tok+t))=w1 at *;clear c0 c1 c2 c3 c4 f0 S0 HB0 h;obtain ⟨c0,c1,c2,c3,c4⟩:=S1.val v hv;simp only[z5Z]at c1;have f0:=S1.free (7+v * 5+1)
 go_upto_region 3 with fail
 have S2:=S1.set (7+v * 5+1) (.int .i64 ((s.V v).sh+n));rw[j6x _ sl v hv]at S2;have HB2:Hid (But b w (w1.setCell ⟨b,7+v * 5+1,none⟩ (.int .i64 ((s.V v).sh+n)))):=HB1.out.set _ _;generalize w1.setCell ⟨b,7+v * 5+1,none⟩ (.int .i64 ((s.V v).sh+n))=w2 at *;clear c0 c1 c2 c3 c4 f0 S1 HB1;have c0:=S2.shr d v hd hv;have f0:=S2.free (37+d * 6+v);have S3:=S2.set (37+d * 6+v) (.int .i64 (s.S d v+n));rw[j4g _ sl d v hd hv]at S3;have HS3:Hid (SAt (w2.setCell ⟨b,37+d * 6+v,none⟩ (.int .i64 (s.S d v+n))) b (stC (q3x s d v t n) sl)):=by rw[add_eq];exact S3
 clear S2 S3;go_wp2;go_end0;exact ⟨rfl,HS3.out,HB2.out.set _ _⟩
theorem z4F{fn:Func}{p q:Tmp}(h:fn.results=#[.cell p 43,.tmp q])(tmps:Array Value)(w:World)(g:Nat)(cs:Array Value)(v:Value)
  (hp:tmps.getD p undef=.pointer (some ⟨g,0,none⟩)) (hq:tmps.getD q undef=v) (hg:SAt w g cs) (hsz:cs.size=63) :
  (results fn tmps).run prog w=.ok (.tuple #[.agg cs,v]) w:=by
 have hp':tmps[p]?.getD undef=.pointer (some ⟨g,0,none⟩):=by simpa using hp
 have hq':tmps[q]?.getD undef=v:=by simpa using hq
 simp[results,h,hp',hq',asAddr,run_loadVar_row w g 43 43 cs (0,0) _ hg underlying43 rfl (by rw[z0x,hsz])]
theorem z0E{f:Func}{p q:Tmp}(hres:f.results=#[.cell p 43,.tmp q]){B g:Nat}{w wq:World}{zs:Array Value}(R:SAt wq g zs)(hz:zs.size=63)(H:Below B w wq)(hB:B<=g)(s':St)(sl:Value)(er:Int)(r:St×Int)(hr:r=(s',er))(act:Act)
  (h8:act.tmps.getD p undef=.pointer (some ⟨g,0,none⟩)) (h9:act.tmps.getD q undef=.int .i64 er) (hd:act.defers=[]) :
  bodyPost prog f (fun e w'=>e=.returned (.tuple #[.agg (stC r.1 sl),.int .i64 r.2])/\Below B w w') Exit.ret act (wq.setCells g 0 (stC s' sl).toList):=by
 subst hr;have R3:=R.z0s (ds:=stC s' sl) (by rw[hz];rfl)
 exact bodyPost_ret (v:=.tuple #[.agg (stC s' sl),.int .i64 er]) (z4F hres _ _ g _ _ h8 h9 R3 rfl) hd ⟨rfl,z0a hB _ _ _ H⟩
theorem z1H{ops:Array Oper}{rest:List Oper}{o:Oper}{a:Act}{w:World}{Q:Exit->Act->World->Prop}(hg:o.guard=none)(x:Operand)(hop:o.op=Op.move x)(hK:wpList prog ops Q rest (a.put o.dst (a.eval x)) w) :
  wpList prog ops Q (o :: rest) a w:=by
 refine wpList_plain hg fun _ hK'=>?_;unfold Oper.wp
 simp[execOp,hop]
 exact hK' _ _ hK
theorem z0r:Z63.size=63:=rfl
theorem z2E{b k o:Nat}(hk:k≠b)(vs:List Value)(p:Nat)(w:World):(w.setCells b p vs).cell? ⟨k,o,none⟩=w.cell? ⟨k,o,none⟩:=World.cell?_of_block (w:=w) (z1c hk vs p w)
theorem z2h.sets{w:World}{ao:Option Addr}{b o g:Nat}{W:List Wt}(h:z2h w ao b o W)(hg:0<W.length->b≠g)(vs:List Value)(p:Nat):z2h (w.setCells g p vs) ao b o W:=by
 refine ⟨h.adr,h.len,fun i x hx=>?_⟩;have hne:b≠g:=hg (by have:=(List.getElem?_eq_some_iff.1 hx).1;omega)
 obtain ⟨h0,h1,h2,h3,h4,h5,h6,h7⟩:=h.cell i x hx;exact ⟨(z2E hne _ _ _).trans h0,(z2E hne _ _ _).trans h1,(z2E hne _ _ _).trans h2,(z2E hne _ _ _).trans h3,(z2E hne _ _ _).trans h4,(z2E hne _ _ _).trans h5,(z2E hne _ _ _).trans h6,(z2E hne _ _ _).trans h7⟩
theorem z2h.but{w w':World}{ao:Option Addr}{b o g:Nat}{W:List Wt}(h:z2h w ao b o W)(hb:But g w w')(hg:0<W.length->b≠g):z2h w' ao b o W:=by
 refine ⟨h.adr,h.len,fun i x hx=>?_⟩;have hne:b≠g:=hg (by have:=(List.getElem?_eq_some_iff.1 hx).1;omega)
 have k:∀ o,w'.cell? ⟨b,o,none⟩=w.cell? ⟨b,o,none⟩:=fun o=>World.cell?_of_block (w:=w) (hb.block b hne);obtain ⟨h0,h1,h2,h3,h4,h5,h6,h7⟩:=h.cell i x hx;exact ⟨(k _).trans h0,(k _).trans h1,(k _).trans h2,(k _).trans h3,(k _).trans h4,(k _).trans h5,(k _).trans h6,(k _).trans h7⟩
theorem z8L(a b c:Int)(w:World)(a1:a<=9223372036854775807)(b1:b<=9223372036854775807)(c1:c<=9223372036854775807) :
  Calls prog 148 #[.int .i64 a,.int .i64 b,.int .i64 c] w fun e w'=>e=.returned (.tuple #[.int .i64 (mdN a b c),.int .i64 (mdE a b c)])/\Below w.heap.size w w':=Ra.j2E a b c a1 b1 c1 w
theorem z4e(a b c:Int):0<=mdN a b c/\mdN a b c<=1125899906842624:=by
 unfold mdN
 split
 ·omega
 ·rename_i h;have h0:0<=a * b:=Int.mul_nonneg (by omega) (by omega)
  have h1:0<=a * b / c:=Int.ediv_nonneg h0 (by omega)
  split <;> omega
theorem j7g(x:Vd)(n:Int):shN x n=if x.sh=0 then n else if x.tok=0 then 0 else if mdE n x.sh x.tok=0/\inA (x.sh+mdN n x.sh x.tok)=true then mdN n x.sh x.tok else 0:=rfl
theorem j7k(x:Vd)(n:Int):shE x n=if x.sh=0 then 0 else if x.tok=0 then 8 else if mdE n x.sh x.tok=0/\inA (x.sh+mdN n x.sh x.tok)=true then if mdN n x.sh x.tok=0 then 8 else 0 else 6:=rfl
theorem j6n(x:Vd)(n:Int):woN x n=if mdE n x.tok x.sh=0 then mdN n x.tok x.sh else 0:=rfl
theorem j7H(x:Vd)(n:Int):woE x n=if mdE n x.tok x.sh=0 then if mdN n x.tok x.sh=0 then 8 else 0 else mdE n x.tok x.sh:=rfl
theorem z9G(b o:Nat)(x:Vd)(n:Int)(w:World)(hn:n<=1125899906842624)(hx:vOk x=true)(h0:w.cell? ⟨b,o,none⟩=some (.int .i64 x.tok))(h1:w.cell? ⟨b,o+1,none⟩=some (.int .i64 x.sh)) :
  Calls prog 106 #[.pointer (some ⟨b,o,none⟩),.int .i64 n] w fun e w'=>e=.returned (.tuple #[.int .i64 (shN x n),.int .i64 (shE x n)])/\Below w.heap.size w w':=by
 obtain ⟨k1,k2,k3⟩:=z2a hx;rw[z0B]at k1 k2 k3;have hM:=fun w=>z8L n x.sh x.tok w (by omega) (by omega) (by omega)
 have hI:=z4Z (x.sh+mdN n x.sh x.tok);have HN:=hide (j7g x n);have HE:=hide (j7k x n);have hblt:b<w.heap.size:=World.block_lt_of_cell? w _ h0;clear hx;obtain ⟨xt,xs,xl,xj,xd⟩:=x;simp only at *;have hb:=z4e n xs xt;generalize shN ⟨xt,xs,xl,xj,xd⟩ n=rN at *;generalize shE ⟨xt,xs,xl,xj,xd⟩ n=rE at *;generalize mdN n xs xt=m at *;generalize mdE n xs xt=er at *;generalize inA (xs+m)=t at *
 go_enter func106,ntmps106
 go_upto_region 5 with fail
 all_goals first
  | (go_ret2;refine ⟨?_,Below.refl _ _⟩;have e1:=HN.out;have e2:=HE.out;simp_all;done)
  | skip
 go_region_held3 (fun wx=>wx.cell? ⟨b,o,none⟩=some (.int .i64 xt)/\wx.cell? ⟨b,o+1,none⟩=some (.int .i64 xs)) (first | go_keep | (refine ⟨?_,?_⟩ <;> (rw[hbM.cell hblt];simp[*])))
  (first | (go_at_call 148;refine (hM _).mono ?_;rintro e w1 ⟨rfl,hbM⟩))
 rename_i hh;obtain ⟨g0,g1⟩:=hh;have HB:Hid (Below w.heap.size w w1):=(Below.refl _ w).drew.trans hbM;clear hbM
 go_wp2_with (go_at_call 147;refine (hI _).mono ?_;rintro e w2 ⟨rfl,rfl⟩)
 all_goals (go_ret2;refine ⟨?_,HB.out⟩;have e1:=HN.out;have e2:=HE.out;clear HN HE hM hI;simp_all)
theorem q2x(b o:Nat)(x:Vd)(n:Int)(w:World)(hn:n<=1125899906842624)(hx:vOk x=true)(h0:w.cell? ⟨b,o,none⟩=some (.int .i64 x.tok))(h1:w.cell? ⟨b,o+1,none⟩=some (.int .i64 x.sh)) :
  Calls prog 109 #[.pointer (some ⟨b,o,none⟩),.int .i64 n] w fun e w'=>e=.returned (.tuple #[.int .i64 (woN x n),.int .i64 (woE x n)])/\Below w.heap.size w w':=by
 obtain ⟨k1,k2,k3⟩:=z2a hx;rw[z0B]at k1 k2 k3;have hM:=fun w=>z8L n x.tok x.sh w (by omega) (by omega) (by omega)
 have HN:=hide (j6n x n);have HE:=hide (j7H x n);have hblt:b<w.heap.size:=World.block_lt_of_cell? w _ h0;clear hx;obtain ⟨xt,xs,xl,xj,xd⟩:=x;simp only at *;generalize woN ⟨xt,xs,xl,xj,xd⟩ n=rN at *;generalize woE ⟨xt,xs,xl,xj,xd⟩ n=rE at *;generalize mdN n xt xs=m at *;generalize mdE n xt xs=er at *
 go_enter func109,ntmps109
 go_upto_region 1 with fail
 go_region_held3 (fun wx=>wx.cell? ⟨b,o,none⟩=some (.int .i64 xt)/\wx.cell? ⟨b,o+1,none⟩=some (.int .i64 xs)) (first | go_keep | (refine ⟨?_,?_⟩ <;> (rw[hbM.cell hblt];simp[*])))
  (first | (go_at_call 148;refine (hM _).mono ?_;rintro e w1 ⟨rfl,hbM⟩))
 rename_i hh;have HB:Hid (Below w.heap.size w w1):=(Below.refl _ w).drew.trans hbM;clear hbM hh;go_wp2
 all_goals (go_ret2;refine ⟨?_,HB.out⟩;have e1:=HN.out;have e2:=HE.out;clear HN HE hM;simp_all)
def z6s(s:St)(v:Nat)(j d:Bool):St:={ s with V:=z1J s.V v { s.V v with jail:=j,dead:=d } }
theorem j5D(s:St)(sl:Value)(v:Nat)(hv:v<6)(x:Bool):(stC s sl).setIfInBounds (7+v * 5+3) (.bool x)=stC (z6s s v x (s.V v).dead) sl:=j1g s sl v hv x
theorem j8F(s:St)(sl:Value)(v:Nat)(hv:v<6)(j d x:Bool):(stC (z6s s v j d) sl).setIfInBounds (7+v * 5+4) (.bool x)=stC (z6s s v j x) sl:=by
 rw[j0T _ sl v hv x];unfold z6s;simp only[q0W,z5Z]
def z9i(s:St)(v:Int):St×Int:=
 if z6n s v=0 then if (s.V v.toNat).jail=true then (s,14) else (z6s s v.toNat true (s.V v.toNat).dead,0) else (s,z6n s v)
def z1h(s:St)(v:Int):St×Int:=
 if z6n s v=0 then if (s.V v.toNat).dead=true then (s,15) else if (s.V v.toNat).jail=true then (z6s s v.toNat false false,0) else (s,4) else (s,z6n s v)
def z8n(s:St)(v:Int):St×Int:=
 if z6n s v=0 then if (s.V v.toNat).dead=true then (s,15) else (z6s s v.toNat true true,0) else (s,z6n s v)
theorem z4i{s:St}{v:Int}(h:z6n s v=0):z0k s=true/\(0<=v/\v<6):=by
 unfold z6n at h
 repeat' split at h
 all_goals first | (simp_all [z2N];done) | omega
theorem z3E{s:St}{v:Nat}(hg:z0k s=true)(hv:v<6):z6n s v=0:=by
 unfold z6n;rw[hg,z2N.2 (show (0:Int)<=v/\(v:Int)<6 by omega)]
 rfl
theorem j1x(s:St)(ao:Option Addr)(sb so c:Nat)(v:Int)(w:World)(hW:z2h w ao sb so s.W)(r:St×Int)(h0:z6n s v≠0)(hr:r=(s,z6n s v)) :
  Calls prog 177 #[.agg (stC s (.slice ao s.W.length c)),.int .i64 v] w fun e w'=>e=.returned (.tuple #[.agg (stC r.1 (.slice ao s.W.length c)),.int .i64 r.2])/\Below w.heap.size w w':=by
 have SS:=(SAt.new w (stC s (.slice ao s.W.length c))).alloc (.cells Z63 43);have RR:=SAt.new2 w (.cells (stC s (.slice ao s.W.length c)) 43) Z63;have HB:Hid (Below w.heap.size w ((w.alloc (.cells (stC s (.slice ao s.W.length c)) 43)).alloc (.cells Z63 43))):=(znw w _).alloc (by simp) _
 have HW:=hide hW;have HR:=hide hr;clear hW hr
 go_enter func177,ntmps177
 go_upto_region 1 with fail
 change Code.wp prog _ _ _ ((w.alloc (.cells (stC s (.slice ao s.W.length c)) 43)).alloc (.cells Z63 43));generalize (w.alloc (.cells (stC s (.slice ao s.W.length c)) 43)).alloc (.cells Z63 43)=w0 at *
 go_upto_region 2 with (go_at_call 79;refine (z1G s ao sb so c w.heap.size v _ SS (by exact HW.out.over HB.out)).mono ?_;rintro e w1 ⟨rfl,h1⟩)
 have HB1:=hide (zbt HB.out h1);have S1:=SS.later h1 SS.lt;have R1:=RR.later h1 RR.lt;clear SS RR h1 HB
 go_upto_region 3 with fail
 apply wp_region_lit;refine wpList_load_mid rfl 43 _ rfl _ 0 rfl _ _ S1.range underlying43 rfl (by rw[z0x];rfl) ?_
 refine z1H rfl _ rfl ?_;refine wpList_store_mid rfl 43 _ _ rfl _ 0 (stC s (.slice ao s.W.length c)) rfl rfl (R1.there 0 _ (by rw[z0r,z0e];omega)) (by rw[z0x];rfl) (z0z _ _ _ _) ?_
 go_wp2;exact z0E results177 R1 rfl HB1.out (by omega) s _ _ r HR.out _ rfl rfl rfl
theorem q8i(s:St)(ao:Option Addr)(sb so c v:Nat)(w:World)(hW:z2h w ao sb so s.W)(r:St×Int)(hg:z0k s=true)(hv:v<6)(h1:(s.V v).jail=true->r=(s,14))(h2:(s.V v).jail=false->r=((z6s s v true (s.V v).dead),0)) :
  Calls prog 177 #[.agg (stC s (.slice ao s.W.length c)),.int .i64 (v:Int)] w fun e w'=>e=.returned (.tuple #[.agg (stC r.1 (.slice ao s.W.length c)),.int .i64 r.2])/\Below w.heap.size w w':=by
 have SS:=(SAt.new w (stC s (.slice ao s.W.length c))).alloc (.cells Z63 43);have RR:=SAt.new2 w (.cells (stC s (.slice ao s.W.length c)) 43) Z63;have HB:Hid (Below w.heap.size w ((w.alloc (.cells (stC s (.slice ao s.W.length c)) 43)).alloc (.cells Z63 43))):=(znw w _).alloc (by simp) _
 have HW:=hide hW;have Hh1:=hide h1;have Hh2:=hide h2;have hRf:=z3E hg hv;have hv':(v:Int)<6:=by omega
 have hv0:(0:Int)<=(v:Int):=by omega
 clear hW h1 h2
 go_enter func177,ntmps177
 go_upto_region 1 with fail
 change Code.wp prog _ _ _ ((w.alloc (.cells (stC s (.slice ao s.W.length c)) 43)).alloc (.cells Z63 43));generalize (w.alloc (.cells (stC s (.slice ao s.W.length c)) 43)).alloc (.cells Z63 43)=w0 at *
 go_upto_region 2 with (go_at_call 79;refine (z1G s ao sb so c w.heap.size v _ SS (by exact HW.out.over HB.out)).mono ?_;rintro e w1 ⟨rfl,h1⟩)
 have HB1:=hide (zbt HB.out h1);have S1:=SS.later h1 SS.lt;have R1:=RR.later h1 RR.lt;clear SS RR h1 HB;obtain ⟨c0,c1,c2,c3,c4⟩:=S1.val v hv;have hz1:w.heap.size+1<w1.heap.size:=R1.lt;clear c0 c1 c2
 go_upto_region 7 with (first | ((fail_if_success (go_not_at_region 6));apply wp_region_lit;refine wpList_load_mid rfl 43 _ rfl _ 0 rfl _ _ S1.range underlying43 rfl (by rw[z0x];rfl) ?_;refine wpList_store_mid rfl 43 _ _ rfl _ 0 (stC s (.slice ao s.W.length c)) rfl rfl (R1.there 0 _ (by rw[z0r,z0e];omega)) (by rw[z0x];rfl) (z0z _ _ _ _) ?_))
 ·exact z0E results177 R1 rfl HB1.out (by omega) s _ _ r (Hh1.out ‹(s.V v).jail=true›) _ rfl rfl rfl
 ·have HR:=hide (Hh2.out ‹(s.V v).jail=false›);have f0:=S1.free (7+v * 5+3);have S2:=S1.set (7+v * 5+3) (.bool true);rw[j5D _ _ v hv]at S2;have RZ:SAt (w1.setCell ⟨w.heap.size,7+v * 5+3,none⟩ (.bool true)) (w.heap.size+1) Z63:=(R1.other (by omega) (.bool true):SAt _ _ _)
  have HZ:=hide (HB1.out.setCell (p:=⟨w.heap.size,7+v * 5+3,none⟩) (Nat.le_refl _) (.bool true));clear S1 R1 HB1
  go_upto_region 8 with fail
  generalize (w1.setCell ⟨w.heap.size,7+v * 5+3,none⟩ (.bool true))=w9 at *;apply wp_region_lit;refine wpList_load_mid rfl 43 _ rfl _ 0 rfl _ _ S2.range underlying43 rfl (by rw[z0x];rfl) ?_
  refine wpList_store_mid rfl 43 _ _ rfl _ 0 (stC (z6s s v true (s.V v).dead) (.slice ao s.W.length c)) rfl rfl (RZ.there 0 _ (by rw[z0r,z0e];omega)) (by rw[z0x];rfl) (z0z _ _ _ _) ?_
  go_wp2;exact z0E results177 RZ rfl HZ.out (by omega) (z6s s v true (s.V v).dead) (.slice ao s.W.length c) 0 r HR.out _ rfl rfl rfl
theorem q6T(s:St)(ao:Option Addr)(sb so c:Nat)(v:Int)(w:World)(hW:z2h w ao sb so s.W) :
  Calls prog 177 #[.agg (stC s (.slice ao s.W.length c)),.int .i64 v] w fun e w'=>e=.returned (.tuple #[.agg (stC (z9i s v).1 (.slice ao s.W.length c)),.int .i64 (z9i s v).2])/\Below w.heap.size w w':=by
 by_cases h:z6n s v=0
 ·obtain ⟨hg,v0,v1⟩:=z4i h;obtain ⟨v,rfl⟩:=Int.eq_ofNat_of_zero_le v0;exact q8i s ao sb so c v w hW _ hg (by omega) (fun h1=>by rw[z9i,if_pos h];exact if_pos h1) (fun h1=>by rw[z9i,if_pos h];exact if_neg (by simp[h1]))
 ·exact j1x s ao sb so c v w hW _ h (by unfold z9i;exact if_neg h)
theorem q5V(s:St)(ao:Option Addr)(sb so c:Nat)(v:Int)(w:World)(hW:z2h w ao sb so s.W)(r:St×Int)(h0:z6n s v≠0)(hr:r=(s,z6n s v)) :
  Calls prog 64 #[.agg (stC s (.slice ao s.W.length c)),.int .i64 v] w fun e w'=>e=.returned (.tuple #[.agg (stC r.1 (.slice ao s.W.length c)),.int .i64 r.2])/\Below w.heap.size w w':=by
 have SS:=(SAt.new w (stC s (.slice ao s.W.length c))).alloc (.cells Z63 43);have RR:=SAt.new2 w (.cells (stC s (.slice ao s.W.length c)) 43) Z63;have HB:Hid (Below w.heap.size w ((w.alloc (.cells (stC s (.slice ao s.W.length c)) 43)).alloc (.cells Z63 43))):=(znw w _).alloc (by simp) _
 have HW:=hide hW;have HR:=hide hr;clear hW hr
 go_enter func64,ntmps64
 go_upto_region 1 with fail
 change Code.wp prog _ _ _ ((w.alloc (.cells (stC s (.slice ao s.W.length c)) 43)).alloc (.cells Z63 43));generalize (w.alloc (.cells (stC s (.slice ao s.W.length c)) 43)).alloc (.cells Z63 43)=w0 at *
 go_upto_region 2 with (go_at_call 79;refine (z1G s ao sb so c w.heap.size v _ SS (by exact HW.out.over HB.out)).mono ?_;rintro e w1 ⟨rfl,h1⟩)
 have HB1:=hide (zbt HB.out h1);have S1:=SS.later h1 SS.lt;have R1:=RR.later h1 RR.lt;clear SS RR h1 HB
 go_upto_region 3 with fail
 apply wp_region_lit;refine wpList_load_mid rfl 43 _ rfl _ 0 rfl _ _ S1.range underlying43 rfl (by rw[z0x];rfl) ?_
 refine z1H rfl _ rfl ?_;refine wpList_store_mid rfl 43 _ _ rfl _ 0 (stC s (.slice ao s.W.length c)) rfl rfl (R1.there 0 _ (by rw[z0r,z0e];omega)) (by rw[z0x];rfl) (z0z _ _ _ _) ?_
 go_wp2;exact z0E results64 R1 rfl HB1.out (by omega) s _ _ r HR.out _ rfl rfl rfl
theorem q2b(s:St)(ao:Option Addr)(sb so c v:Nat)(w:World)(hW:z2h w ao sb so s.W)(r:St×Int)(hg:z0k s=true)(hv:v<6)(h1:(s.V v).dead=true->r=(s,15))(h2:(s.V v).dead=false->(s.V v).jail=false->r=(s,4))(h3:(s.V v).dead=false->(s.V v).jail=true->r=((z6s s v false false),0)) :
  Calls prog 64 #[.agg (stC s (.slice ao s.W.length c)),.int .i64 (v:Int)] w fun e w'=>e=.returned (.tuple #[.agg (stC r.1 (.slice ao s.W.length c)),.int .i64 r.2])/\Below w.heap.size w w':=by
 have SS:=(SAt.new w (stC s (.slice ao s.W.length c))).alloc (.cells Z63 43);have RR:=SAt.new2 w (.cells (stC s (.slice ao s.W.length c)) 43) Z63;have HB:Hid (Below w.heap.size w ((w.alloc (.cells (stC s (.slice ao s.W.length c)) 43)).alloc (.cells Z63 43))):=(znw w _).alloc (by simp) _
 have HW:=hide hW;have Hh1:=hide h1;have Hh2:=hide h2;have Hh3:=hide h3;have hRf:=z3E hg hv;have hv':(v:Int)<6:=by omega
 have hv0:(0:Int)<=(v:Int):=by omega
 clear hW h1 h2 h3
 go_enter func64,ntmps64
 go_upto_region 1 with fail
 change Code.wp prog _ _ _ ((w.alloc (.cells (stC s (.slice ao s.W.length c)) 43)).alloc (.cells Z63 43));generalize (w.alloc (.cells (stC s (.slice ao s.W.length c)) 43)).alloc (.cells Z63 43)=w0 at *
 go_upto_region 2 with (go_at_call 79;refine (z1G s ao sb so c w.heap.size v _ SS (by exact HW.out.over HB.out)).mono ?_;rintro e w1 ⟨rfl,h1⟩)
 have HB1:=hide (zbt HB.out h1);have S1:=SS.later h1 SS.lt;have R1:=RR.later h1 RR.lt;clear SS RR h1 HB;obtain ⟨c0,c1,c2,c3,c4⟩:=S1.val v hv;have hz1:w.heap.size+1<w1.heap.size:=R1.lt;clear c0 c1 c2
 go_upto_region 9 with (first | ((fail_if_success (go_not_at_region 6));apply wp_region_lit;refine wpList_load_mid rfl 43 _ rfl _ 0 rfl _ _ S1.range underlying43 rfl (by rw[z0x];rfl) ?_;refine wpList_store_mid rfl 43 _ _ rfl _ 0 (stC s (.slice ao s.W.length c)) rfl rfl (R1.there 0 _ (by rw[z0r,z0e];omega)) (by rw[z0x];rfl) (z0z _ _ _ _) ?_) | ((fail_if_success (go_not_at_region 8));apply wp_region_lit;refine wpList_load_mid rfl 43 _ rfl _ 0 rfl _ _ S1.range underlying43 rfl (by rw[z0x];rfl) ?_;refine wpList_store_mid rfl 43 _ _ rfl _ 0 (stC s (.slice ao s.W.length c)) rfl rfl (R1.there 0 _ (by rw[z0r,z0e];omega)) (by rw[z0x];rfl) (z0z _ _ _ _) ?_))
 ·exact z0E results64 R1 rfl HB1.out (by omega) s _ _ r (Hh1.out ‹(s.V v).dead=true›) _ rfl rfl rfl
 ·exact z0E results64 R1 rfl HB1.out (by omega) s _ _ r (Hh2.out ‹(s.V v).dead=false› (by simpa using ‹(!(s.V v).jail)=true›)) _ rfl rfl rfl
 ·have HR:=hide (Hh3.out ‹(s.V v).dead=false› (by simpa using ‹(!(s.V v).jail)=false›))
  have f0:=S1.free (7+v * 5+3);have S2:=S1.set (7+v * 5+3) (.bool false);rw[j5D _ _ v hv,‹(s.V v).dead=false›]at S2;have RZ:SAt (w1.setCell ⟨w.heap.size,7+v * 5+3,none⟩ (.bool false)) (w.heap.size+1) Z63:=(R1.other (by omega) (.bool false):SAt _ _ _)
  have HZ:=hide (HB1.out.setCell (p:=⟨w.heap.size,7+v * 5+3,none⟩) (Nat.le_refl _) (.bool false));clear S1 R1 HB1
  go_upto_region 10 with fail
  generalize (w1.setCell ⟨w.heap.size,7+v * 5+3,none⟩ (.bool false))=w9 at *;apply wp_region_lit;refine wpList_load_mid rfl 43 _ rfl _ 0 rfl _ _ S2.range underlying43 rfl (by rw[z0x];rfl) ?_
  refine wpList_store_mid rfl 43 _ _ rfl _ 0 (stC (z6s s v false false) (.slice ao s.W.length c)) rfl rfl (RZ.there 0 _ (by rw[z0r,z0e];omega)) (by rw[z0x];rfl) (z0z _ _ _ _) ?_
  go_wp2;exact z0E results64 RZ rfl HZ.out (by omega) (z6s s v false false) (.slice ao s.W.length c) 0 r HR.out _ rfl rfl rfl
theorem q2q(s:St)(ao:Option Addr)(sb so c:Nat)(v:Int)(w:World)(hW:z2h w ao sb so s.W) :
  Calls prog 64 #[.agg (stC s (.slice ao s.W.length c)),.int .i64 v] w fun e w'=>e=.returned (.tuple #[.agg (stC (z1h s v).1 (.slice ao s.W.length c)),.int .i64 (z1h s v).2])/\Below w.heap.size w w':=by
 by_cases h:z6n s v=0
 ·obtain ⟨hg,v0,v1⟩:=z4i h;obtain ⟨v,rfl⟩:=Int.eq_ofNat_of_zero_le v0;exact q2b s ao sb so c v w hW _ hg (by omega) (fun h1=>by rw[z1h,if_pos h];exact if_pos h1) (fun h1 h2=>by rw[z1h,if_pos h,if_neg (by simp[h1])];exact if_neg (by simp[h2])) (fun h1 h2=>by rw[z1h,if_pos h,if_neg (by simp[h1])];exact if_pos h2)
 ·exact q5V s ao sb so c v w hW _ h (by unfold z1h;exact if_neg h)
theorem j1l(s:St)(ao:Option Addr)(sb so c:Nat)(v:Int)(w:World)(hW:z2h w ao sb so s.W)(r:St×Int)(h0:z6n s v≠0)(hr:r=(s,z6n s v)) :
  Calls prog 113 #[.agg (stC s (.slice ao s.W.length c)),.int .i64 v] w fun e w'=>e=.returned (.tuple #[.agg (stC r.1 (.slice ao s.W.length c)),.int .i64 r.2])/\Below w.heap.size w w':=by
 have SS:=(SAt.new w (stC s (.slice ao s.W.length c))).alloc (.cells Z63 43);have RR:=SAt.new2 w (.cells (stC s (.slice ao s.W.length c)) 43) Z63;have HB:Hid (Below w.heap.size w ((w.alloc (.cells (stC s (.slice ao s.W.length c)) 43)).alloc (.cells Z63 43))):=(znw w _).alloc (by simp) _
 have HW:=hide hW;have HR:=hide hr;clear hW hr
 go_enter func113,ntmps113
 go_upto_region 1 with fail
 change Code.wp prog _ _ _ ((w.alloc (.cells (stC s (.slice ao s.W.length c)) 43)).alloc (.cells Z63 43));generalize (w.alloc (.cells (stC s (.slice ao s.W.length c)) 43)).alloc (.cells Z63 43)=w0 at *
 go_upto_region 2 with (go_at_call 79;refine (z1G s ao sb so c w.heap.size v _ SS (by exact HW.out.over HB.out)).mono ?_;rintro e w1 ⟨rfl,h1⟩)
 have HB1:=hide (zbt HB.out h1);have S1:=SS.later h1 SS.lt;have R1:=RR.later h1 RR.lt;clear SS RR h1 HB
 go_upto_region 3 with fail
 apply wp_region_lit;refine wpList_load_mid rfl 43 _ rfl _ 0 rfl _ _ S1.range underlying43 rfl (by rw[z0x];rfl) ?_
 refine z1H rfl _ rfl ?_;refine wpList_store_mid rfl 43 _ _ rfl _ 0 (stC s (.slice ao s.W.length c)) rfl rfl (R1.there 0 _ (by rw[z0r,z0e];omega)) (by rw[z0x];rfl) (z0z _ _ _ _) ?_
 go_wp2;exact z0E results113 R1 rfl HB1.out (by omega) s _ _ r HR.out _ rfl rfl rfl
theorem q8k(s:St)(ao:Option Addr)(sb so c v:Nat)(w:World)(hW:z2h w ao sb so s.W)(r:St×Int)(hg:z0k s=true)(hv:v<6)(h1:(s.V v).dead=true->r=(s,15))(h2:(s.V v).dead=false->r=((z6s s v true true),0)) :
  Calls prog 113 #[.agg (stC s (.slice ao s.W.length c)),.int .i64 (v:Int)] w fun e w'=>e=.returned (.tuple #[.agg (stC r.1 (.slice ao s.W.length c)),.int .i64 r.2])/\Below w.heap.size w w':=by
 have SS:=(SAt.new w (stC s (.slice ao s.W.length c))).alloc (.cells Z63 43);have RR:=SAt.new2 w (.cells (stC s (.slice ao s.W.length c)) 43) Z63;have HB:Hid (Below w.heap.size w ((w.alloc (.cells (stC s (.slice ao s.W.length c)) 43)).alloc (.cells Z63 43))):=(znw w _).alloc (by simp) _
 have HW:=hide hW;have Hh1:=hide h1;have Hh2:=hide h2;have hRf:=z3E hg hv;have hv':(v:Int)<6:=by omega
 have hv0:(0:Int)<=(v:Int):=by omega
 clear hW h1 h2
 go_enter func113,ntmps113
 go_upto_region 1 with fail
 change Code.wp prog _ _ _ ((w.alloc (.cells (stC s (.slice ao s.W.length c)) 43)).alloc (.cells Z63 43));generalize (w.alloc (.cells (stC s (.slice ao s.W.length c)) 43)).alloc (.cells Z63 43)=w0 at *
 go_upto_region 2 with (go_at_call 79;refine (z1G s ao sb so c w.heap.size v _ SS (by exact HW.out.over HB.out)).mono ?_;rintro e w1 ⟨rfl,h1⟩)
 have HB1:=hide (zbt HB.out h1);have S1:=SS.later h1 SS.lt;have R1:=RR.later h1 RR.lt;clear SS RR h1 HB;obtain ⟨c0,c1,c2,c3,c4⟩:=S1.val v hv;have hz1:w.heap.size+1<w1.heap.size:=R1.lt;clear c0 c1 c2
 go_upto_region 7 with (first | ((fail_if_success (go_not_at_region 6));apply wp_region_lit;refine wpList_load_mid rfl 43 _ rfl _ 0 rfl _ _ S1.range underlying43 rfl (by rw[z0x];rfl) ?_;refine wpList_store_mid rfl 43 _ _ rfl _ 0 (stC s (.slice ao s.W.length c)) rfl rfl (R1.there 0 _ (by rw[z0r,z0e];omega)) (by rw[z0x];rfl) (z0z _ _ _ _) ?_))
 ·exact z0E results113 R1 rfl HB1.out (by omega) s _ _ r (Hh1.out ‹(s.V v).dead=true›) _ rfl rfl rfl
 ·have HR:=hide (Hh2.out ‹(s.V v).dead=false›);have f0:=S1.free (7+v * 5+3);have f1:=S1.free (7+v * 5+4);have S2:=S1.set (7+v * 5+3) (.bool true);rw[j5D _ _ v hv]at S2;have S3:=S2.set (7+v * 5+4) (.bool true);rw[j8F _ _ v hv]at S3;have RZ:SAt ((w1.setCell ⟨w.heap.size,7+v * 5+3,none⟩ (.bool true)).setCell ⟨w.heap.size,7+v * 5+4,none⟩ (.bool true)) (w.heap.size+1) Z63:=((R1.other (by omega) (.bool true):SAt _ _ _).other (by omega) (.bool true):SAt _ _ _)
  have HZ:=hide ((HB1.out.setCell (p:=⟨w.heap.size,7+v * 5+3,none⟩) (Nat.le_refl _) (.bool true)).setCell (p:=⟨w.heap.size,7+v * 5+4,none⟩) (Nat.le_refl _) (.bool true));clear S1 R1 HB1
  go_upto_region 8 with fail
  generalize ((w1.setCell ⟨w.heap.size,7+v * 5+3,none⟩ (.bool true)).setCell ⟨w.heap.size,7+v * 5+4,none⟩ (.bool true))=w9 at *;apply wp_region_lit;refine wpList_load_mid rfl 43 _ rfl _ 0 rfl _ _ S3.range underlying43 rfl (by rw[z0x];rfl) ?_
  refine wpList_store_mid rfl 43 _ _ rfl _ 0 (stC (z6s s v true true) (.slice ao s.W.length c)) rfl rfl (RZ.there 0 _ (by rw[z0r,z0e];omega)) (by rw[z0x];rfl) (z0z _ _ _ _) ?_
  go_wp2;exact z0E results113 RZ rfl HZ.out (by omega) (z6s s v true true) (.slice ao s.W.length c) 0 r HR.out _ rfl rfl rfl
theorem q9s(s:St)(ao:Option Addr)(sb so c:Nat)(v:Int)(w:World)(hW:z2h w ao sb so s.W) :
  Calls prog 113 #[.agg (stC s (.slice ao s.W.length c)),.int .i64 v] w fun e w'=>e=.returned (.tuple #[.agg (stC (z8n s v).1 (.slice ao s.W.length c)),.int .i64 (z8n s v).2])/\Below w.heap.size w w':=by
 by_cases h:z6n s v=0
 ·obtain ⟨hg,v0,v1⟩:=z4i h;obtain ⟨v,rfl⟩:=Int.eq_ofNat_of_zero_le v0;exact q8k s ao sb so c v w hW _ hg (by omega) (fun h1=>by rw[z8n,if_pos h];exact if_pos h1) (fun h1=>by rw[z8n,if_pos h];exact if_neg (by simp[h1]))
 ·exact j1l s ao sb so c v w hW _ h (by unfold z8n;exact if_neg h)
def pwr(x:Vd):Int:=x.tok / 100
def z4G(V:Nat->Vd):Nat->List Pw
 | 0=>[]
 | k+1=>if (decide (0<pwr (V k)) && !(V k).jail)=true then z4G V k ++ [((k:Int),pwr (V k))] else z4G V k
def z7Y(V:Nat->Vd):List Pw:=z2m ltV ((z2m ltP (z4G V 6)).take 4)
theorem z4Q(V:Nat->Vd):∀ k,(z4G V k).length<=k
 | 0=>by simp[z4G]
 | k+1=>by
  have:=z4Q V k;rw[z4G]
  split
  ·simp;omega
  ·omega
theorem z2d(lt:Pw->Pw->Bool)(l:List Pw):(z2m lt l).length=l.length:=z1N _ _ _
theorem z1F.take{w:World}{g:Nat}{l:List Pw}(h:z1F w g l)(n:Nat):z1F w g (l.take n):=by
 obtain ⟨cur,hc,hx⟩:=h;exact ⟨cur,hc,fun i x hi=>hx i x (by rw[List.getElem?_take]at hi;split at hi;exact hi;simp at hi)⟩
theorem j2n(s:St)(sl:Value)(w:World)(hV:∀ k,k<6->inA (s.V k).tok=true) :
  Calls prog 85 #[.agg (stC s sl)] w fun e w'=>∃ v,e=.returned v/\j8K w' w.heap.size v (z7Y s.V)/\Below w.heap.size w w':=by
 obtain ⟨i0,hi,hz0,hz1,hz2⟩:=info_parts q7z;have S0:=SAt.new w (stC s sl);have HB0:Hid (Below w.heap.size w (w.alloc (.cells (stC s sl) 43))):=znw w _
 go_enter func85,ntmps85
 go_upto_region 1 with fail
 generalize w.alloc (.cells (stC s sl) 43)=w0 at *;have hz:w.heap.size<w0.heap.size:=S0.lt
 go_wp2_with fail
 go_loopw [3,7] (fun v i wl=>∃ k:Nat,k<=6/\i=.int .i64 (k:Int)/\z5E wl w0.heap.size v (z4G s.V k)/\Hid (Below w0.heap.size w0 wl)) (fun _ i _=>(6 - intOf i).toNat)
 case atStart=>exact ⟨0,by omega,rfl,z5E.nil _ _,Below.refl _ _⟩
 case round =>
  obtain ⟨k,hk,rfl,hown,HB⟩:=hrel;have hsz:w0.heap.size<=wr.heap.size:=HB.out.size
  by_cases hk6:k<6
  ·have S1:=S0.later HB.out hz;obtain ⟨c0,c1,c2,c3,c4⟩:=S1.val k hk6;have hkk:(k:Int)<6:=by omega
   have hta:=z0B.1 (hV k hk6);have HC:Hid (z4G s.V (k+1)=if (decide (0<pwr (s.V k)) && !(s.V k).jail)=true then z4G s.V k ++ [((k:Int),pwr (s.V k))] else z4G s.V k):=rfl;have hlen:=z4Q s.V k;have hp:pwr (s.V k)=(s.V k).tok / 100:=rfl;rw[hp]at HC;clear c1 c2 c4 S1 hp;generalize (s.V k).jail=jj at *;generalize (s.V k).tok=tt at *
   go_wp2_with (at_builtin;refine wpList_append_own_at _ rfl _ _ 44 rfl w0.heap.size 68 i0 (.agg #[.int .i64 0,.int .i64 0]) 2 16 underlying44 hi hz0 hz1 hz2 rfl (by decide) _ _ _ rfl (World.ownsRow.alloc hown _) ⟨wr.heap.size,0,none⟩ 1 1 [.int .i64 (k:Int),.int .i64 (tt / 100)] rfl rfl (q1K _ _ _ _) (by intro u hu;simp at hu;rcases hu with rfl | rfl <;> rfl) (by unfold maxLen;omega) (by omega) (by simp;omega) ?_;intro v' w1 hown' hgrow _ hat)
   ·have hb:Below w0.heap.size w0 w1:=z5E.grow hown HB.out hgrow (Nat.le_refl _) hsz;have hc:z4G s.V (k+1)=z4G s.V k ++ [((k:Int),tt / 100)]:=by rw[HC.out,if_pos (by simp_all)]
    refine ⟨⟨k+1,by omega,by go_num,?_,hb⟩,by simp[intOf];omega⟩
    rw[hc];exact z5E.append hown' rfl
   ·have hc:z4G s.V (k+1)=z4G s.V k:=by rw[HC.out,if_neg (by simp_all)]
    exact ⟨⟨k+1,by omega,by go_num,by rw[hc];exact hown,HB.out⟩,by simp[intOf];omega⟩
   ·have hc:z4G s.V (k+1)=z4G s.V k:=by rw[HC.out,if_neg (by simp;intro h;omega)]
    exact ⟨⟨k+1,by omega,by go_num,by rw[hc];exact hown,HB.out⟩,by simp[intOf];omega⟩
  ·obtain rfl:k=6:=by omega
   have HBw:Hid (Below w.heap.size w wr):=HB0.out.trans (HB.out.mono (Nat.le_of_lt hz));have hl6:=z4Q s.V 6;have HX:Hid (z7Y s.V=z2m ltV ((z2m ltP (z4G s.V 6)).take 4)):=rfl
   rcases hown.row with ⟨rfl,hnil⟩ | ⟨g,cap,rfl,hg,hrow,hcap,hmax⟩
   ·have HX2:Hid (z7Y s.V=[]):=by rw[HX.out,hnil];rfl
    clear hnil hown HX S0 hV
    go_wp2_with (go_at_call 117;refine (q4p _ _).mono ?_;rintro e w1 ⟨rfl,rfl⟩)
    go_ret;exact ⟨_,rfl,.inl ⟨rfl,HX2.out⟩,HBw.out⟩
   ·have hP:=j5i g cap (z4G s.V 6) wr hrow (by omega)
    rw[← z2d ltP (z4G s.V 6)]at hl6 hcap hP ⊢;have hL0:=hP;clear hrow hown S0 hV hL0;generalize z2m ltP (z4G s.V 6)=L at *;unfold maxLen at hmax;have hi0:(0:Int)<=(L.length:Int):=by omega
    have hi1:(L.length:Int)<=(cap:Int):=by omega
    by_cases h4:L.length<=4
    ·have h4':(L.length:Int)<=4:=by omega
     have HX2:Hid (z7Y s.V=z2m ltV L):=by rw[HX.out,List.take_of_length_le h4];exact rfl
     go_wp2_with (first
      | (go_at_call 117;have _m:=m1;refine (q7d g cap L _ (by exact HR1.out.1) (by omega)).mono ?_;rintro e w2 ⟨rfl,hr2⟩;have HR2:=hide hr2;clear hr2)
      | (go_at_call 117;refine hP.mono ?_;rintro e w1 ⟨rfl,hr1⟩;have HR1:=hide hr1;clear hr1;have m1:True:=trivial))
     go_ret;have hsz1:=HR1.out.2.size;refine ⟨_,rfl,.inr ⟨g,cap,?_,by omega,by rw[HX2.out];exact HR2.out.1,by rw[HX2.out,z2d];exact hcap,by unfold maxLen;exact hmax⟩,?_⟩
     ·rw[HX2.out,z2d];rfl
     ·exact (HBw.out.trans (HR1.out.2.below (B:=w.heap.size) (by omega) (by omega))).trans (HR2.out.2.below (by omega) (by omega))
    ·have h4':4<(L.length:Int):=by omega
     have hl4:(L.take 4).length=4:=by rw[List.length_take];omega
     have hS:=fun w h=>q7d g cap (L.take 4) w h (by omega)
     rw[hl4]at hS;have hc4:(4:Int)<=(cap:Int):=by omega
     go_wp2_with (first
      | (go_at_call 117;have _m:=m1;refine (hS _ (by exact HR1.out.1.take 4)).mono ?_;rintro e w2 ⟨rfl,hr2⟩;have HR2:=hide hr2;clear hr2)
      | (go_at_call 117;refine hP.mono ?_;rintro e w1 ⟨rfl,hr1⟩;have HR1:=hide hr1;clear hr1;have m1:True:=trivial))
     go_ret;have hsz1:=HR1.out.2.size;refine ⟨_,rfl,.inr ⟨g,cap,?_,by omega,by rw[HX.out];exact HR2.out.1,by rw[HX.out,z2d,hl4];omega,by unfold maxLen;exact hmax⟩,?_⟩
     ·rw[HX.out,z2d,hl4];rfl
     ·exact (HBw.out.trans (HR1.out.2.below (B:=w.heap.size) (by omega) (by omega))).trans (HR2.out.2.below (by omega) (by omega))
theorem j5l(w:World):Calls prog 55 #[] w fun e w'=>e=.returned (.agg #[.int .i64 100000,.int .i64 100000,.int .i64 100000,.int .i64 100000,.int .i64 0,.int .i64 0,.int .i64 0])/\Below w.heap.size w w':=by
 go_enter func55,ntmps55
 go_wp2;refine wp_loop_rounds 5 ?_
 iterate 5 (try (rw[rounds_succ];go_wp2))
 exact bodyPost_ret (v:=.agg #[.int .i64 100000,.int .i64 100000,.int .i64 100000,.int .i64 100000,.int .i64 0,.int .i64 0,.int .i64 0]) (by simp[results,results55,go_sem]) rfl ⟨rfl,(znw w _).alloc (by simp) _⟩
end
namespace Df
open Go.RowKit
def QAt(w:World)(b:Nat)(P:Nat->Int):Prop:=w.heap[b]?=some (.cells #[.int .i64 (P 0),.int .i64 (P 1),.int .i64 (P 2),.int .i64 (P 3),.int .i64 (P 4),.int .i64 (P 5)] 39)
section
variable {w w':World} {b B:Nat} {P:Nat->Int}
theorem QAt.later(h:QAt w b P)(hb:Below B w w')(hB:b<B):QAt w' b P:=(hb.block b hB).trans h
theorem QAt.new(w:World)(P:Nat->Int):QAt (w.alloc (.cells #[.int .i64 (P 0),.int .i64 (P 1),.int .i64 (P 2),.int .i64 (P 3),.int .i64 (P 4),.int .i64 (P 5)] 39)) w.heap.size P:=heap_alloc_new _ _
theorem QAt.lt(h:QAt w b P):b<w.heap.size:=(Array.getElem?_eq_some_iff.1 h).1
theorem QAt.alloc(h:QAt w b P)(o:Obj):QAt (w.alloc o) b P:=(Below.heap_alloc _ _ _ h.lt).trans h
theorem QAt.facts(h:QAt w b P):(w.cell? ⟨b,0,none⟩=some (.int .i64 (P 0))/\w.cell? ⟨b,1,none⟩=some (.int .i64 (P 1))/\w.cell? ⟨b,2,none⟩=some (.int .i64 (P 2))/\w.cell? ⟨b,3,none⟩=some (.int .i64 (P 3))/\w.cell? ⟨b,4,none⟩=some (.int .i64 (P 4))/\w.cell? ⟨b,5,none⟩=some (.int .i64 (P 5)))/\(∀ k,w.frozen? ⟨b,k,none⟩=false):=by
 unfold QAt at h
 simp[World.cell?,World.frozen?,h]
theorem QAt.one(h:QAt w b P){k:Nat}(hk:k<6):w.cell? ⟨b,k,none⟩=some (.int .i64 (P k)):=by
 obtain ⟨⟨h0,h1,h2,h3,h4,h5⟩,-⟩:=h.facts
 rcases (show k=0∨k=1∨k=2∨k=3∨k=4∨k=5 by omega) with rfl | rfl | rfl | rfl | rfl | rfl <;> assumption
theorem QAt.put(h:QAt w b P){k:Nat}(hk:k<6)(n:Int):QAt (w.setCell ⟨b,k,none⟩ (.int .i64 n)) b (q6a P ((k:Int),n)):=by
 unfold QAt at *;simp only[z4o hk]
 rcases (show k=0∨k=1∨k=2∨k=3∨k=4∨k=5 by omega) with rfl | rfl | rfl | rfl | rfl | rfl <;> simp[World.setCell,Array.getElem?_modify,h]
end
theorem z3s(w:World)(b k:Nat)(u:Value)(o:Obj):w.grownBy ((w.setCell ⟨b,k,none⟩ u).alloc o).drew (some b):=
 have h:=(Below.refl 0 w).setCell (p:=⟨b,k,none⟩) (Nat.zero_le _) u
 ⟨h.os,h.tape,h.output,by show w.heap.size<=((w.setCell ⟨b,k,none⟩ u).alloc o).heap.size;simp,fun j hj hne=>(Below.heap_alloc (w.setCell ⟨b,k,none⟩ u) o j (by simpa using hj)).trans (Below.heap_setCell _ _ _ _ (fun e=>hne (by rw[e])))⟩
theorem z4Y{w w1:World}{b:Nat}(h:w.grownBy w1 (some b)){B:Nat}(hB:B<=b)(hz:B<=w.heap.size):Below B w w1:=(Below.refl B w).grown h hz (fun k hk=>by cases hk;exact hB)
theorem z7r(b:Nat)(v n:Int)(P:Nat->Int)(w:World)(h:QAt w b P) :
  Calls prog 32 #[.pointer (some ⟨b,0,none⟩),.agg #[.int .i64 v,.int .i64 n]] w fun e w'=>e=.returned (.tuple #[])/\QAt w' b (q6a P (v,n))/\w.grownBy w' (some b):=by
 have hV:=z7s v;have h1:=h.alloc (.cells #[.int .i64 v,.int .i64 n] 68);have hg1:=World.grownBy_alloc w (.cells #[.int .i64 v,.int .i64 n] 68) (some b);have hlt:=h.lt
 by_cases hv:0<=v/\v<6
 ·obtain ⟨k,rfl⟩:=Int.eq_ofNat_of_zero_le hv.1;have hk:k<6:=by omega
  have hkI:(k:Int)<6:=by omega
  rw[show isV (k:Int)=true from z2N.2 hv]at hV;have hc:=h.one hk;have hf:=h.facts.2 k;have HQ:=hide (show _/\_ from ⟨(h.put hk n).alloc (.cells #[.int .i64 (k:Int),.int .i64 n] 68),z3s w b k (.int .i64 n) (.cells #[.int .i64 (k:Int),.int .i64 n] 68)⟩);clear h1 hg1 hv h
  go_enter func32,ntmps32
  go_upto_region 2 with (go_at_call 48;refine (hV _).mono ?_;rintro e w1 ⟨rfl,rfl⟩)
  go_region
  all_goals go_end0
  all_goals exact ⟨rfl,HQ.out.1,HQ.out.2⟩
 ·rw[show isV v=false by simpa [isV] using hv]at hV
  have hp:q6a P (v,n)=P:=by unfold q6a;rw[if_neg hv]
  rw[hp]
  go_enter func32,ntmps32
  go_wp2_with (go_at_call 48;refine (hV _).mono ?_;rintro e w1 ⟨rfl,rfl⟩)
  go_end0;exact ⟨rfl,h1,hg1⟩
structure PIn(w:World)(l:List Pw)(ao:Option Addr)(b off:Nat):Prop where
 len:l.length<=8796093022202
 adr:0<l.length->ao=some ⟨b,off,none⟩
 cells:∀ i,i<l.length->w.cell? ⟨b,off+i * 2,none⟩=some (.int .i64 (l.getD i (0,0)).1)/\w.cell? ⟨b,off+i * 2+1,none⟩=some (.int .i64 (l.getD i (0,0)).2)
theorem PIn.ltB{w:World}{l:List Pw}{ao:Option Addr}{b off:Nat}(h:PIn w l ao b off)(h0:0<l.length):b<w.heap.size:=World.block_lt_of_cell? w _ (h.cells 0 h0).1
theorem PIn.later{B:Nat}{w w':World}{l:List Pw}{ao:Option Addr}{b off:Nat}(h:PIn w l ao b off)(hb:Below B w w')(hB:0<l.length->b<B):PIn w' l ao b off:=
 ⟨h.len,h.adr,fun i hi=>⟨(hb.cell (p:=⟨b,off+i * 2,none⟩) (hB (by omega))).trans (h.cells i hi).1,(hb.cell (p:=⟨b,off+i * 2+1,none⟩) (hB (by omega))).trans (h.cells i hi).2⟩⟩
theorem PIn.over{w w':World}{l:List Pw}{ao:Option Addr}{b off:Nat}(h:PIn w l ao b off)(hb:Below w.heap.size w w'):PIn w' l ao b off:=h.later hb h.ltB
def z3p(w:World)(b:Nat)(v0 v1 v2 v3 v4 v5:Value):World:=(((((w.setCell ⟨b,0,none⟩ v0).setCell ⟨b,1,none⟩ v1).setCell ⟨b,2,none⟩ v2).setCell ⟨b,3,none⟩ v3).setCell ⟨b,4,none⟩ v4).setCell ⟨b,5,none⟩ v5
theorem j4U{w:World}{b:Nat}{R:Nat->Int}(h:QAt w b R)(P:Nat->Int):QAt (z3p w b (.int .i64 (P 0)) (.int .i64 (P 1)) (.int .i64 (P 2)) (.int .i64 (P 3)) (.int .i64 (P 4)) (.int .i64 (P 5))) b P:=by
 unfold QAt z3p at *
 simp[World.setCell,Array.getElem?_modify,h]
theorem z3B{B:Nat}{w0 w:World}{b:Nat}(v0 v1 v2 v3 v4 v5:Value)(h:Below B w0 w)(hB:B<=b):Below B w0 (z3p w b v0 v1 v2 v3 v4 v5):=(((((h.setCell hB _).setCell hB _).setCell hB _).setCell hB _).setCell hB _).setCell hB _
theorem q1l(l:List Pw)(ao:Option Addr)(c b off:Nat)(w:World)(hl:PIn w l ao b off) :
  Calls prog 161 #[.slice ao l.length c] w fun e w'=>e=.returned (.agg #[.int .i64 (z2r l 0),.int .i64 (z2r l 1),.int .i64 (z2r l 2),.int .i64 (z2r l 3),.int .i64 (z2r l 4),.int .i64 (z2r l 5)])/\Below w.heap.size w w':=by
 have hlen:=hl.len;have HL:=hide hl;have Q1:=(QAt.new w z3u).alloc (.cells #[.int .i64 0,.int .i64 0,.int .i64 0,.int .i64 0,.int .i64 0,.int .i64 0] 39);have Q2:=QAt.new (w.alloc (.cells #[.int .i64 0,.int .i64 0,.int .i64 0,.int .i64 0,.int .i64 0,.int .i64 0] 39)) z3u;rw[show (w.alloc (.cells #[.int .i64 0,.int .i64 0,.int .i64 0,.int .i64 0,.int .i64 0,.int .i64 0] 39)).heap.size=w.heap.size+1 by simp]at Q2
 have BW:Below w.heap.size w ((w.alloc (.cells #[.int .i64 0,.int .i64 0,.int .i64 0,.int .i64 0,.int .i64 0,.int .i64 0] 39)).alloc (.cells #[.int .i64 0,.int .i64 0,.int .i64 0,.int .i64 0,.int .i64 0,.int .i64 0] 39)):=(znw w _).alloc (by simp) _
 dsimp only [z3u]at Q1 Q2;clear hl
 go_enter func161,ntmps161
 go_upto_region 2 with fail
 generalize ((w.alloc (.cells #[.int .i64 0,.int .i64 0,.int .i64 0,.int .i64 0,.int .i64 0,.int .i64 0] 39)).alloc (.cells #[.int .i64 0,.int .i64 0,.int .i64 0,.int .i64 0,.int .i64 0,.int .i64 0] 39))=w0 at *;have HX:=hide (show _/\_/\_ from ⟨Q1,Q2,BW⟩);clear Q1 Q2 BW
 go_upto_region 3 with fail
 go_loopw [4] (fun i wl=>∃ k:Nat,k<=l.length/\i=.int .i64 ((k:Int) - 1)/\Hid (QAt wl w.heap.size (fun _=>0)/\QAt wl (w.heap.size+1) (z2r (l.drop k))/\Below w.heap.size w wl)) (fun i _=>(intOf i+1).toNat)
 case atStart=>exact ⟨l.length,Nat.le_refl _,rfl,HX.out.1,by rw[List.drop_length];exact HX.out.2.1,HX.out.2.2⟩
 case round =>
  obtain ⟨k,hk,rfl,HR⟩:=hrel;clear HX
  by_cases h0:0<k
  ·obtain ⟨j,rfl⟩:∃ j,k=j+1:=⟨k - 1,by omega⟩
   have hj:j<l.length:=by omega
   have hjI:(j:Int)<(l.length:Int):=by omega
   obtain ⟨c0,c1⟩:=(HL.out.later HR.out.2.2 HL.out.ltB).cells j hj;have HS:=hide (q5m l j hj);have eao:=HL.out.adr (by omega)
   subst eao;generalize l.getD j (0,0)=x at *;obtain ⟨v,n⟩:=x;dsimp only at c0 c1;have ej:(((j+1:Nat):Int) - 1)=(j:Int):=by omega
   rw[ej]
   go_wp2_with (go_at_call 32;refine (z7r (w.heap.size+1) v n _ _ HR.out.2.1).mono ?_;rintro e w1 ⟨rfl,hq,hg⟩;have HQ:=hide hq;have HG:=hide hg;clear hq hg)
   refine ⟨⟨j,by omega,rfl,(HG.out.block _ HR.out.1.lt (by simp)).trans HR.out.1,by rw[HS.out];exact HQ.out,HR.out.2.2.trans (z4Y HG.out (by omega) HR.out.2.2.size)⟩,by simp[intOf]⟩
  ·obtain rfl:k=0:=by omega
   have hF:z2r (l.drop 0)=z2r l:=by rw[List.drop_zero]
   rw[hF]at HR;obtain ⟨F,hFl⟩:∃ F,z2r l=F:=⟨_,rfl⟩;rw[hFl]at HR;have HFL:=hide hFl;clear hF hFl;obtain ⟨⟨c0,c1,c2,c3,c4,c5⟩,-⟩:=HR.out.2.1.facts;obtain ⟨⟨d0,d1,d2,d3,d4,d5⟩,hfr⟩:=HR.out.1.facts;go_wp2;have HQ:=j4U HR.out.1 F;have HB:=z3B (b:=w.heap.size) (.int .i64 (F 0)) (.int .i64 (F 1)) (.int .i64 (F 2)) (.int .i64 (F 3)) (.int .i64 (F 4)) (.int .i64 (F 5)) HR.out.2.2 (Nat.le_refl _)
   show bodyPost prog f161 _ Exit.ret _ (z3p wr w.heap.size (.int .i64 (F 0)) (.int .i64 (F 1)) (.int .i64 (F 2)) (.int .i64 (F 3)) (.int .i64 (F 4)) (.int .i64 (F 5)))
   generalize z3p wr w.heap.size (.int .i64 (F 0)) (.int .i64 (F 1)) (.int .i64 (F 2)) (.int .i64 (F 3)) (.int .i64 (F 4)) (.int .i64 (F 5))=w9 at *;obtain ⟨⟨z0,z1,z2,z3,z4,z5⟩,-⟩:=HQ.facts;exact bodyPost_ret (v:=.agg #[.int .i64 (F 0),.int .i64 (F 1),.int .i64 (F 2),.int .i64 (F 3),.int .i64 (F 4),.int .i64 (F 5)]) (by simp[results,results161,go_sem,z0,z1,z2,z3,z4,z5]) rfl ⟨by rw[HFL.out],HB⟩
end Df
end Go.Proofs.YtmopekkhmhhcaaaGreat
