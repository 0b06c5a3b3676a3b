/- Parts of the proof. -/
import Derived.Test.YtjghbciepinofaaGreatPL
import Derived.Test.YtjghbciepinofaaGreatPK18
import Derived.Test.YtjghbciepinofaaGreatPK26
import Derived.Laws.Cover3
set_option maxRecDepth 100000
set_option maxHeartbeats 16000000
namespace Go.Proofs.YtjghbciepinofaaGreat
open Go.Proofs.Tryz
open Value renaming int->J,slice->J1,pointer->J2,bool->J3,agg->J4
open IntKind renaming i64->I
open Obj renaming cells->J5
section
open Go.RowKit
structure But(b:Nat)(w w':World):Prop where
 os:w'.os=w.os
 tape:w'.tape=w.tape
 output:w'.output=w.output
 size:w'.heap.size=w.heap.size
 block:∀ k,k≠b->w'.heap[k]?=w.heap[k]?
theorem But.refl(b:Nat)(w:World):But b w w:=⟨rfl,rfl,rfl,rfl,fun _ _=>rfl⟩
theorem But.set{b:Nat}{w w':World}(h:But b w w')(o:Nat)(v:Value):But b w (w'.setCell ⟨b,o,none⟩ v):=
 ⟨h.os,h.tape,h.output,(by simp[World.setCell];exact h.size),fun k a=>(Below.heap_setCell _ _ _ _ a).trans (h.block k a)⟩
theorem But.below{b B:Nat}{w w':World}(h:But b w w')(a:B<=b):Below B w w':=⟨h.os,h.tape,h.output,by rw[h.size];exact Nat.le_refl _,fun k c=>h.block k (by omega)⟩
theorem But.z0I{b c:Nat}{w w':World}{cs:Array Value}(h:But b w w')(a:c≠b)(S:SAt w c cs):SAt w' c cs:=(h.block c a).trans S
theorem z9u(s:St)(a:Value)(v:Nat)(b:v<6)(x:Int):(stC s a).setIfInBounds (7+v * 5) (J I x)=stC { s with V:=z2a s.V v { s.V v with tok:=x } } a:=by
 rcases (show v=0∨v=1∨v=2∨v=3∨v=4∨v=5 by omega) with rfl | rfl | rfl | rfl | rfl | rfl <;> rfl
theorem q9U(s:St)(a:Value)(v:Nat)(b:v<6)(x:Int):(stC s a).setIfInBounds (7+v * 5+1) (J I x)=stC { s with V:=z2a s.V v { s.V v with sh:=x } } a:=by
 rcases (show v=0∨v=1∨v=2∨v=3∨v=4∨v=5 by omega) with rfl | rfl | rfl | rfl | rfl | rfl <;> rfl
theorem z9Q(s:St)(a:Value)(v:Nat)(b:v<6)(x:Int):(stC s a).setIfInBounds (7+v * 5+2) (J I x)=stC { s with V:=z2a s.V v { s.V v with lost:=x } } a:=by
 rcases (show v=0∨v=1∨v=2∨v=3∨v=4∨v=5 by omega) with rfl | rfl | rfl | rfl | rfl | rfl <;> rfl
theorem q6f(s:St)(a:Value)(v:Nat)(b:v<6)(x:Bool):(stC s a).setIfInBounds (7+v * 5+3) (J3 x)=stC { s with V:=z2a s.V v { s.V v with jail:=x } } a:=by
 rcases (show v=0∨v=1∨v=2∨v=3∨v=4∨v=5 by omega) with rfl | rfl | rfl | rfl | rfl | rfl <;> rfl
theorem q5T(s:St)(a:Value)(v:Nat)(b:v<6)(x:Bool):(stC s a).setIfInBounds (7+v * 5+4) (J3 x)=stC { s with V:=z2a s.V v { s.V v with dead:=x } } a:=by
 rcases (show v=0∨v=1∨v=2∨v=3∨v=4∨v=5 by omega) with rfl | rfl | rfl | rfl | rfl | rfl <;> rfl
theorem q8c(s:St)(a:Value)(d v:Nat)(hd:d<4)(b:v<6)(x:Int):(stC s a).setIfInBounds (37+d * 6+v) (J I x)=stC { s with S:=q7i s.S d v x } a:=by
 rcases (show d=0∨d=1∨d=2∨d=3 by omega) with rfl | rfl | rfl | rfl <;> rcases (show v=0∨v=1∨v=2∨v=3∨v=4∨v=5 by omega) with rfl | rfl | rfl | rfl | rfl | rfl <;> rfl
theorem z6G(s:St)(b a:Value):(stC s b).setIfInBounds 61 a=stC s a:=rfl
theorem z8r(V:Nat->Vd)(v:Nat)(x y:Vd):z2a (z2a V v x) v y=z2a V v y:=by funext i;unfold z2a;split <;> rfl
theorem z3k(V:Nat->Vd)(v:Nat)(x:Vd):z2a V v x v=x:=if_pos rfl
theorem add_eq(s:St)(d v:Nat)(t n:Int):q6q s d v t n={ ({ ({ s with V:=z2a s.V v { s.V v with tok:=(s.V v).tok+t } }:St) with V:=z2a (z2a s.V v { s.V v with tok:=(s.V v).tok+t }) v { (z2a s.V v { s.V v with tok:=(s.V v).tok+t }) v with sh:=(s.V v).sh+n } }:St) with S:=q7i s.S d v (s.S d v+n) }:=by
 unfold q6q;rw[z8r,z3k]
theorem q2S(b:Nat)(w:World)(n:Nat):But b w (w.drewN n):=⟨rfl,rfl,rfl,rfl,fun _ _=>rfl⟩
theorem q5S(s:St)(a:Value)(b d v:Nat)(t n:Int)(w:World)(h:SAt w b (stC s a))(hd:d<4)(c:v<6)
  (h1:-4611686018427387904<=(s.V v).tok+t/\(s.V v).tok+t<=4611686018427387904) (h2:-4611686018427387904<=(s.V v).sh+n/\(s.V v).sh+n<=4611686018427387904) (h3:-4611686018427387904<=s.S d v+n/\s.S d v+n<=4611686018427387904) :
  Calls prog 107 #[J2 (some ⟨b,0,none⟩),J I (d:Int),J I (v:Int),J I t,J I n] w fun e w'=>e=.returned (.tuple #[])/\SAt w' b (stC (q6q s d v t n) a)/\But b w w':=by
 have q:(d:Int)<4:=by omega
 have r:(v:Int)<6:=by omega
 have u:(0:Int)<=(d:Int):=by omega
 have x:(0:Int)<=(v:Int):=by omega
 go_enter func107,ntmps107
 go_upto_region 0 with fail
 go_quiet (fail);have k:SAt (w.drewN nq) b (stC s a):=h;have f:Hid (But b w (w.drewN nq)):=q2S b w nq;generalize w.drewN nq=w0 at *;obtain⟨c0,c1,c2,c3,l⟩:=k.val v c;have f0:=k.free (7+v * 5)
 go_upto_region 2 with fail
 have g:=k.set (7+v * 5) (J I ((s.V v).tok+t));rw[z9u s a v c]at g;have i:Hid (But b w (w0.setCell ⟨b,7+v * 5,none⟩ (J I ((s.V v).tok+t)))):=f.out.set _ _;generalize w0.setCell ⟨b,7+v * 5,none⟩ (J I ((s.V v).tok+t))=w1 at *;clear c0 c1 c2 c3 l f0 k f h;obtain⟨c0,c1,c2,c3,l⟩:=g.val v c;simp only[z3k]at c1;have f0:=g.free (7+v * 5+1)
 go_upto_region 3 with fail
 have j:=g.set (7+v * 5+1) (J I ((s.V v).sh+n));rw[q9U _ a v c]at j;have m:Hid (But b w (w1.setCell ⟨b,7+v * 5+1,none⟩ (J I ((s.V v).sh+n)))):=i.out.set _ _;generalize w1.setCell ⟨b,7+v * 5+1,none⟩ (J I ((s.V v).sh+n))=w2 at *;clear c0 c1 c2 c3 l f0 g i;have c0:=j.shr d v hd c;have f0:=j.free (37+d * 6+v);have o:=j.set (37+d * 6+v) (J I (s.S d v+n));rw[q8c _ a d v hd c]at o;have p:Hid (SAt (w2.setCell ⟨b,37+d * 6+v,none⟩ (J I (s.S d v+n))) b (stC (q6q s d v t n) a)):=by rw[add_eq];exact o
 clear j o;go_wp2;go_end0;exact⟨rfl,p.out,m.out.set _ _⟩
theorem z2D{e:Func}{p q:Tmp}(h:e.results=#[.cell p 32,.tmp q])(a:Array Value)(w:World)(g:Nat)(cs:Array Value)(v:Value)
  (f:a.getD p undef=J2 (some ⟨g,0,none⟩)) (hq:a.getD q undef=v) (i:SAt w g cs) (b:cs.size=63) :
  (results e a).run prog w=.ok (.tuple #[J4 cs,v]) w:=by
 have c:a[p]?.getD undef=J2 (some ⟨g,0,none⟩):=by simpa using f
 have d:a[q]?.getD undef=v:=by simpa using hq
 simp[results,h,c,d,asAddr,run_loadVar_row w g 32 32 cs (0,0) _ i underlying32 rfl (by rw[z0l,b])]
theorem z1a{f:Func}{p q:Tmp}(a:f.results=#[.cell p 32,.tmp q]){B g:Nat}{w wq:World}{d:Array Value}(R:SAt wq g d)(h:d.size=63)(H:Below B w wq)(i:B<=g)(s':St)(b:Value)(c:Int)(r:St×Int)(j:r=(s',c))(act:Act)
  (k:act.tmps.getD p undef=J2 (some ⟨g,0,none⟩)) (l:act.tmps.getD q undef=J I c) (hd:act.defers=[]) :
  bodyPost prog f (fun e w'=>e=.returned (.tuple #[J4 (stC r.1 b),J I r.2])/\Below B w w') Exit.ret act (wq.setCells g 0 (stC s' b).toList):=by
 subst j;have m:=R.z0C (ds:=stC s' b) (by rw[h];rfl)
 exact bodyPost_ret (v:=.tuple #[J4 (stC s' b),J I c]) (z2D a _ _ g _ _ k l m rfl) hd ⟨rfl,z0b i _ _ _ H⟩
theorem z1O{ops:Array Oper}{rest:List Oper}{o:Oper}{a:Act}{w:World}{Q:Exit->Act->World->Prop}(d:o.guard=none)(x:Operand)(b:o.op=Op.move x)(e:wpList prog ops Q rest (a.put o.dst (a.eval x)) w) :
  wpList prog ops Q (o :: rest) a w:=by
 refine wpList_plain d fun _ c=>?_;unfold Oper.wp
 simp[execOp,b]
 exact c _ _ e
theorem z0p:Z63.size=63:=rfl
def z7R(v:Value):Sem Value:=Instr.loadAt 32 v
theorem z0O(v:Value):Instr.loadAt 32 v=z7R v:=rfl
theorem SAt.z7R{w:World}{b:Nat}{cs:Array Value}(h:SAt w b cs)(a:cs.size=63):(z7R (J2 (some ⟨b,0,none⟩))).run prog w=.ok (J4 cs) w:=h.load a
theorem j0i(w:World)(a b c d e f g:Value):(Instr.index 191 (J4 #[a,b,c,d,e,f,g]) (J I 0)).run prog w=.ok a w:=by kernel_rfl
theorem j0r(w:World)(b a c d e f g:Value):(Instr.index 191 (J4 #[b,a,c,d,e,f,g]) (J I 1)).run prog w=.ok a w:=by kernel_rfl
theorem j0m(w:World)(b c a d e f g:Value):(Instr.index 191 (J4 #[b,c,a,d,e,f,g]) (J I 2)).run prog w=.ok a w:=by kernel_rfl
theorem j0w(w:World)(b c d a e f g:Value):(Instr.index 191 (J4 #[b,c,d,a,e,f,g]) (J I 3)).run prog w=.ok a w:=by kernel_rfl
theorem j0A(w:World)(b c d e a f g:Value):(Instr.index 191 (J4 #[b,c,d,e,a,f,g]) (J I 4)).run prog w=.ok a w:=by kernel_rfl
theorem j0t(w:World)(b c d e f a g:Value):(Instr.index 191 (J4 #[b,c,d,e,f,a,g]) (J I 5)).run prog w=.ok a w:=by kernel_rfl
theorem j0F(w:World)(b c d e f g a:Value):(Instr.index 191 (J4 #[b,c,d,e,f,g,a]) (J I 6)).run prog w=.ok a w:=by kernel_rfl
theorem z0X(f0 f1 f2 f3 bo wa bu:Int)(w:World):Calls prog 157 #[J4 #[J I f0,J I f1,J I f2,J I f3,J I bo,J I wa,J I bu]] w fun e w'=>e=.returned (J4 #[J I f0,J I f1,J I f2,J I f3,J I bo,J I wa,J I bu])/\Bl w w':=by
 go_enter func157,ntmps157
 go_wp2;exact bodyPost_ret (v:=J4 #[J I f0,J I f1,J I f2,J I f3,J I bo,J I wa,J I bu]) (by simp[results,results157,go_sem]) rfl ⟨rfl,(znw w _).alloc (by simp) _⟩
theorem z1E(f0 f1 f2 f3 bo wa bu:Int)(w:World):Calls prog 158 #[J4 #[J I f0,J I f1,J I f2,J I f3,J I bo,J I wa,J I bu]] w fun e w'=>e=.returned (J4 #[J I f0,J I f1,J I f2,J I f3,J I bo,J I wa,J I bu])/\Bl w w':=by
 go_enter func158,ntmps158
 go_wp2;exact bodyPost_ret (v:=J4 #[J I f0,J I f1,J I f2,J I f3,J I bo,J I wa,J I bu]) (by simp[results,results158,go_sem]) rfl ⟨rfl,(znw w _).alloc (by simp) _⟩
theorem z2f(d:Int)(w:World):Calls prog 138 #[J I d] w fun e w'=>e=.returned (J3 (decide (0<=d/\d<=1125899906842624)))/\w=w':=by
 by_cases h0:0<=d
 ·by_cases h1:d<=1125899906842624
  ·rw[decide_eq_true ⟨h0,h1⟩]
   go_enter func138,ntmps138
   go_wp2;go_ret;exact⟨rfl,rfl⟩
  ·rw[decide_eq_false (fun h=>h1 h.2)];have h2:1125899906842624<d:=by omega
   go_enter func138,ntmps138
   go_wp2;go_ret;exact⟨rfl,rfl⟩
 ·rw[decide_eq_false (fun h=>h0 h.1)];have h2:d<0:=by omega
  go_enter func138,ntmps138
  go_wp2;go_ret;exact⟨rfl,rfl⟩
def psm(f0 f1 f2 f3 bo wa bu:Int):Nat->Int
 | 0=>0
 | 1=>f0
 | 2=>f0+f1
 | 3=>f0+f1+f2
 | 4=>f0+f1+f2+f3
 | 5=>f0+f1+f2+f3+bo
 | 6=>f0+f1+f2+f3+bo+wa
 | _=>f0+f1+f2+f3+bo+wa+bu
def inr(n:Int):Prop:=0<=n/\n<=400000
def okk(f0 f1 f2 f3 bo wa bu:Int)(k:Nat):Prop:=(0<k->inr f0)/\(1<k->inr f1)/\(2<k->inr f2)/\(3<k->inr f3)/\(4<k->inr bo)/\(5<k->inr wa)/\(6<k->inr bu)
theorem z0T(f0 f1 f2 f3 bo wa bu:Int)(w:World):Calls prog 137 #[J4 #[J I f0,J I f1,J I f2,J I f3,J I bo,J I wa,J I bu]] w fun e w'=>e=.returned (J3 (z0v f0 f1 f2 f3 bo wa bu))/\Bl w w':=by
 have x:¬ (inr f0/\inr f1/\inr f2/\inr f3/\inr bo/\inr wa/\inr bu)->z0v f0 f1 f2 f3 bo wa bu=false:=fun h=>decide_eq_false fun g=>h ⟨g.1,g.2.1,g.2.2.1,g.2.2.2.1,g.2.2.2.2.1,g.2.2.2.2.2.1,g.2.2.2.2.2.2.1⟩;have m:Hid (¬ (inr f0/\inr f1/\inr f2/\inr f3/\inr bo/\inr wa/\inr bu)->z0v f0 f1 f2 f3 bo wa bu=false):=x;clear x
 have t:inr f0/\inr f1/\inr f2/\inr f3/\inr bo/\inr wa/\inr bu->z0v f0 f1 f2 f3 bo wa bu=(f0+f1+f2+f3+bo+wa+bu == 400000):=by
  intro h;unfold z0v inr at *
  simp[h]
  rfl
 have A:Hid (inr f0/\inr f1/\inr f2/\inr f3/\inr bo/\inr wa/\inr bu->z0v f0 f1 f2 f3 bo wa bu=(f0+f1+f2+f3+bo+wa+bu == 400000)):=t;clear t;generalize z0v f0 f1 f2 f3 bo wa bu=G at *;have B:Hid (Bl w (w.alloc (J5 #[J I f0,J I f1,J I f2,J I f3,J I bo,J I wa,J I bu] 24))):=znw w _
 go_enter func137,ntmps137
 go_wp2_with fail
 refine (z0X f0 f1 f2 f3 bo wa bu _).mono ?_;rintro e w1⟨rfl,h1⟩;have d:Hid (Bl w w1):=zbt B.out h1;clear B h1;go_wp2
 go_loop [3,8] (fun s i=>∃ k:Nat,k<=7/\i=J I (k:Int)/\s=J I (psm f0 f1 f2 f3 bo wa bu k)/\Hid (okk f0 f1 f2 f3 bo wa bu k)) (fun _ i=>(7 - intOf i).toNat)
 case atStart=>exact⟨0,by omega,rfl,rfl,by simp[Hid,okk]⟩
 case round =>
  obtain⟨k,D,rfl,rfl,b⟩:=hrel
  rcases (show k=0∨k=1∨k=2∨k=3∨k=4∨k=5∨k=6∨k=7 by omega) with rfl | rfl | rfl | rfl | rfl | rfl | rfl | rfl
  ·have v:=j0i
   have c:0<=f0->f0<=400000->wrap64 (0+f0)=f0:=by
    intro n p;skip;rw[z0a (by omega) (by omega)]
    omega
   skip;simp only[psm]
   by_cases n:f0<0
   ·have f:=m.out (fun h=>absurd h.1.1 (by omega))
    subst f;clear c;go_wp2;go_ret;exact⟨rfl,d.out⟩
   ·by_cases p:400000<f0
    ·have f:=m.out (fun h=>absurd h.1.2 (by omega))
     subst f;clear c;go_wp2;go_ret;exact⟨rfl,d.out⟩
    ·have j:=c (by omega) (by omega)
     clear c;have a:inr f0:=⟨by omega,by omega⟩
     have l:Hid (okk f0 f1 f2 f3 bo wa bu 1):=by
      skip
      simp[Hid,okk]
      exact a
     clear a b;go_wp2
     go_round
     case rel=>exact⟨1,by omega,by go_num,by first | rfl | (rw[j];rfl),l⟩
     case measure=>simp[intOf]
  ·have v:=j0r;have q:=b.out.1 (by omega)
   have c:0<=f1->f1<=400000->wrap64 (f0+f1)=f0+f1:=by
    intro n p;unfold inr at *;rw[z0a (by omega) (by omega)]
    
   clear q;simp only[psm]
   by_cases n:f1<0
   ·have f:=m.out (fun h=>absurd h.2.1.1 (by omega))
    subst f;clear c;go_wp2;go_ret;exact⟨rfl,d.out⟩
   ·by_cases p:400000<f1
    ·have f:=m.out (fun h=>absurd h.2.1.2 (by omega))
     subst f;clear c;go_wp2;go_ret;exact⟨rfl,d.out⟩
    ·have j:=c (by omega) (by omega)
     clear c;have a:inr f1:=⟨by omega,by omega⟩
     have l:Hid (okk f0 f1 f2 f3 bo wa bu 2):=by
      have:=b.out
      simp[Hid,okk]at this ⊢
      simp[this,a]
     clear a b;go_wp2
     go_round
     case rel=>exact⟨2,by omega,by go_num,by first | rfl | (rw[j];rfl),l⟩
     case measure=>simp[intOf]
  ·have v:=j0m;have q:=b.out.1 (by omega)
   have r:=b.out.2.1 (by omega)
   have c:0<=f2->f2<=400000->wrap64 (f0+f1+f2)=f0+f1+f2:=by
    intro n p;unfold inr at *;rw[z0a (by omega) (by omega)]
    
   clear q r;simp only[psm]
   by_cases n:f2<0
   ·have f:=m.out (fun h=>absurd h.2.2.1.1 (by omega))
    subst f;clear c;go_wp2;go_ret;exact⟨rfl,d.out⟩
   ·by_cases p:400000<f2
    ·have f:=m.out (fun h=>absurd h.2.2.1.2 (by omega))
     subst f;clear c;go_wp2;go_ret;exact⟨rfl,d.out⟩
    ·have j:=c (by omega) (by omega)
     clear c;have a:inr f2:=⟨by omega,by omega⟩
     have l:Hid (okk f0 f1 f2 f3 bo wa bu 3):=by
      have:=b.out
      simp[Hid,okk]at this ⊢
      simp[this,a]
     clear a b;go_wp2
     go_round
     case rel=>exact⟨3,by omega,by go_num,by first | rfl | (rw[j];rfl),l⟩
     case measure=>simp[intOf]
  ·have v:=j0w;have q:=b.out.1 (by omega)
   have r:=b.out.2.1 (by omega)
   have u:=b.out.2.2.1 (by omega)
   have c:0<=f3->f3<=400000->wrap64 (f0+f1+f2+f3)=f0+f1+f2+f3:=by
    intro n p;unfold inr at *;rw[z0a (by omega) (by omega)]
    
   clear q r u;simp only[psm]
   by_cases n:f3<0
   ·have f:=m.out (fun h=>absurd h.2.2.2.1.1 (by omega))
    subst f;clear c;go_wp2;go_ret;exact⟨rfl,d.out⟩
   ·by_cases p:400000<f3
    ·have f:=m.out (fun h=>absurd h.2.2.2.1.2 (by omega))
     subst f;clear c;go_wp2;go_ret;exact⟨rfl,d.out⟩
    ·have j:=c (by omega) (by omega)
     clear c;have a:inr f3:=⟨by omega,by omega⟩
     have l:Hid (okk f0 f1 f2 f3 bo wa bu 4):=by
      have:=b.out
      simp[Hid,okk]at this ⊢
      simp[this,a]
     clear a b;go_wp2
     go_round
     case rel=>exact⟨4,by omega,by go_num,by first | rfl | (rw[j];rfl),l⟩
     case measure=>simp[intOf]
  ·have v:=j0A;have q:=b.out.1 (by omega)
   have r:=b.out.2.1 (by omega)
   have u:=b.out.2.2.1 (by omega)
   have y:=b.out.2.2.2.1 (by omega)
   have c:0<=bo->bo<=400000->wrap64 (f0+f1+f2+f3+bo)=f0+f1+f2+f3+bo:=by
    intro n p;unfold inr at *;rw[z0a (by omega) (by omega)]
    
   clear q r u y;simp only[psm]
   by_cases n:bo<0
   ·have f:=m.out (fun h=>absurd h.2.2.2.2.1.1 (by omega))
    subst f;clear c;go_wp2;go_ret;exact⟨rfl,d.out⟩
   ·by_cases p:400000<bo
    ·have f:=m.out (fun h=>absurd h.2.2.2.2.1.2 (by omega))
     subst f;clear c;go_wp2;go_ret;exact⟨rfl,d.out⟩
    ·have j:=c (by omega) (by omega)
     clear c;have a:inr bo:=⟨by omega,by omega⟩
     have l:Hid (okk f0 f1 f2 f3 bo wa bu 5):=by
      have:=b.out
      simp[Hid,okk]at this ⊢
      simp[this,a]
     clear a b;go_wp2
     go_round
     case rel=>exact⟨5,by omega,by go_num,by first | rfl | (rw[j];rfl),l⟩
     case measure=>simp[intOf]
  ·have v:=j0t;have q:=b.out.1 (by omega)
   have r:=b.out.2.1 (by omega)
   have u:=b.out.2.2.1 (by omega)
   have y:=b.out.2.2.2.1 (by omega)
   have z:=b.out.2.2.2.2.1 (by omega)
   have c:0<=wa->wa<=400000->wrap64 (f0+f1+f2+f3+bo+wa)=f0+f1+f2+f3+bo+wa:=by
    intro n p;unfold inr at *;rw[z0a (by omega) (by omega)]
    
   clear q r u y z;simp only[psm]
   by_cases n:wa<0
   ·have f:=m.out (fun h=>absurd h.2.2.2.2.2.1.1 (by omega))
    subst f;clear c;go_wp2;go_ret;exact⟨rfl,d.out⟩
   ·by_cases p:400000<wa
    ·have f:=m.out (fun h=>absurd h.2.2.2.2.2.1.2 (by omega))
     subst f;clear c;go_wp2;go_ret;exact⟨rfl,d.out⟩
    ·have j:=c (by omega) (by omega)
     clear c;have a:inr wa:=⟨by omega,by omega⟩
     have l:Hid (okk f0 f1 f2 f3 bo wa bu 6):=by
      have:=b.out
      simp[Hid,okk]at this ⊢
      simp[this,a]
     clear a b;go_wp2
     go_round
     case rel=>exact⟨6,by omega,by go_num,by first | rfl | (rw[j];rfl),l⟩
     case measure=>simp[intOf]
  ·have v:=j0F;have q:=b.out.1 (by omega)
   have r:=b.out.2.1 (by omega)
   have u:=b.out.2.2.1 (by omega)
   have y:=b.out.2.2.2.1 (by omega)
   have z:=b.out.2.2.2.2.1 (by omega)
   have C:=b.out.2.2.2.2.2.1 (by omega)
   have c:0<=bu->bu<=400000->wrap64 (f0+f1+f2+f3+bo+wa+bu)=f0+f1+f2+f3+bo+wa+bu:=by
    intro n p;unfold inr at *;rw[z0a (by omega) (by omega)]
    
   clear q r u y z C;simp only[psm]
   by_cases n:bu<0
   ·have f:=m.out (fun h=>absurd h.2.2.2.2.2.2.1 (by omega))
    subst f;clear c;go_wp2;go_ret;exact⟨rfl,d.out⟩
   ·by_cases p:400000<bu
    ·have f:=m.out (fun h=>absurd h.2.2.2.2.2.2.2 (by omega))
     subst f;clear c;go_wp2;go_ret;exact⟨rfl,d.out⟩
    ·have j:=c (by omega) (by omega)
     clear c;have a:inr bu:=⟨by omega,by omega⟩
     have l:Hid (okk f0 f1 f2 f3 bo wa bu 7):=by
      have:=b.out
      simp[Hid,okk]at this ⊢
      simp[this,a]
     clear a b;go_wp2
     go_round
     case rel=>exact⟨7,by omega,by go_num,by first | rfl | (rw[j];rfl),l⟩
     case measure=>simp[intOf]
  ·have o:=b.out;have f:=A.out ⟨o.1 (by omega),o.2.1 (by omega),o.2.2.1 (by omega),o.2.2.2.1 (by omega),o.2.2.2.2.1 (by omega),o.2.2.2.2.2.1 (by omega),o.2.2.2.2.2.2 (by omega)⟩
   clear o b m A;simp only[psm];go_wp2;go_ret;exact⟨rfl,d.out⟩
end
section
theorem q7q{b:Bk}{f t:Nat}{n:Int}(h:(mv b f t n).2≠0):(mv b f t n).1=b:=by
 unfold mv at *
 split
 ·rfl
 ·rename_i h1;rw[if_neg h1]at h
  split
  ·rfl
  ·rename_i h2;rw[if_neg h2]at h;exact absurd rfl h
theorem z6U{b:Bk}{f t:Nat}{n:Int}(a:b.good=true)(h0:0<=n)(h1:n<=1125899906842624)(h2:n<=b.get f):mv b f t n=((b.put f (b.get f - n)).put t (b.get t+n),0):=by
 unfold mv;rw[if_neg (by rw[a];simp[h0,h1]),if_neg (by omega)]
theorem q7g{b:Bk}{f t:Nat}{n:Int}(h:(mv b f t n).2=0):b.good=true/\0<=n/\n<=1125899906842624/\n<=b.get f/\mv b f t n=((b.put f (b.get f - n)).put t (b.get t+n),0):=by
 by_cases h1:b.good=false∨¬ (0<=n/\n<=1125899906842624)
 ·unfold mv at h;rw[if_pos h1]at h;exact absurd h (by simp)
 ·by_cases h2:b.get f<n
  ·unfold mv at h;rw[if_neg h1,if_pos h2]at h;exact absurd h (by simp)
  ·have c:b.good=true:=by
    cases d:b.good with
    | true=>rfl
    | false=>exact absurd (.inl d) h1
   have a:0<=n/\n<=1125899906842624:=Decidable.byContradiction fun a=>h1 (.inr a);exact⟨c,a.1,a.2,by omega,z6U c a.1 a.2 (by omega)⟩
def Goes(f t:Nat):Prop:=(f<4/\t=4)∨(f=5/\t<4)∨(f=4/\t=5)∨(f=4/\t=6)∨(f=5/\t=6)
theorem z5k(b:Bk):b.good=true↔(0<=b.f0/\b.f0<=400000)/\(0<=b.f1/\b.f1<=400000)/\(0<=b.f2/\b.f2<=400000)/\(0<=b.f3/\b.f3<=400000)/\(0<=b.bo/\b.bo<=400000)/\(0<=b.wa/\b.wa<=400000)/\(0<=b.bu/\b.bu<=400000)/\b.f0+b.f1+b.f2+b.f3+b.bo+b.wa+b.bu=400000:=by
 unfold Bk.good z0v;exact decide_eq_true_iff
theorem z9k{b:Bk}{f t:Nat}{n:Int}(a:Goes f t)(c:b.good=true)(h0:0<=n)(h2:n<=b.get f) :
  ((b.put f (b.get f - n)).put t (b.get t+n)).good=true/\b.bu<=((b.put f (b.get f - n)).put t (b.get t+n)).bu:=by
 rw[z5k]at *
 rcases a with⟨hf,rfl⟩ | ⟨rfl,ht⟩ | ⟨rfl,rfl⟩ | ⟨rfl,rfl⟩ | ⟨rfl,rfl⟩
 ·rcases (show f=0∨f=1∨f=2∨f=3 by omega) with rfl | rfl | rfl | rfl <;> simp only[Bk.get,Bk.put]at * <;> omega
 ·rcases (show t=0∨t=1∨t=2∨t=3 by omega) with rfl | rfl | rfl | rfl <;> simp only[Bk.get,Bk.put]at * <;> omega
 all_goals simp only[Bk.get,Bk.put]at * <;> omega
structure Kept(b:Bk)(r:Bk×Int):Prop where
 no:r.2≠0->r.1=b
 yes:r.2=0->b.good=true/\r.1.good=true/\b.bu<=r.1.bu
theorem q2T(b:Bk){f t:Nat}(n:Int)(a:Goes f t):Kept b (mv b f t n):=by
 refine⟨q7q,fun h=>?_⟩;obtain⟨h1,h2,h3,c,d⟩:=q7g h;rw[d];exact⟨h1,z9k a h1 h2 c⟩
theorem q9S(b:Bk)(d n:Int):Kept b (z2P b d n):=by
 unfold z2P
 split
 ·exact q2T b n (.inl ⟨by omega,rfl⟩)
 ·exact⟨fun _=>rfl,fun h=>absurd h (by simp)⟩
theorem q5j(b:Bk)(d n:Int):Kept b (z3R b d n):=by
 unfold z3R
 split
 ·exact q2T b n (.inr (.inl ⟨rfl,by omega⟩))
 ·exact⟨fun _=>rfl,fun h=>absurd h (by simp)⟩
end
section
open Go.RowKit
def pwr(x:Vd):Int:=x.tok / 100
def z2G(V:Nat->Vd):Nat->List Pw
 | 0=>[]
 | k+1=>if (decide (0<pwr (V k)) && !(V k).jail)=true then z2G V k ++ [((k:Int),pwr (V k))] else z2G V k
def z4Y(V:Nat->Vd):List Pw:=z1D ltV ((z1D ltP (z2G V 6)).take 4)
theorem z3Q(V:Nat->Vd):∀ k,(z2G V k).length<=k
 | 0=>by simp[z2G]
 | k+1=>by
  have:=z3Q V k;rw[z2G]
  split
  ·simp;omega
  ·omega
theorem z1K(lt:Pw->Pw->Bool)(l:List Pw):(z1D lt l).length=l.length:=z1z _ _ _
theorem z1w.take{w:World}{g:Nat}{l:List Pw}(h:z1w w g l)(n:Nat):z1w w g (l.take n):=by
 obtain⟨b,c,d⟩:=h;exact⟨b,c,fun i x a=>d i x (by rw[List.getElem?_take]at a;split at a;exact a;simp at a)⟩
theorem q6j(s:St)(x:Value)(w:World)(C:∀ k,k<6->inA (s.V k).tok=true) :
  Calls prog 13 #[J4 (stC s x)] w fun e w'=>∃ v,e=.returned v/\j0S w' w.heap.size v (z4Y s.V)/\Bl w w':=by
 obtain⟨W,X,D,E,F⟩:=info_parts z9H;have y:=SAt.new w (stC s x);have G:Hid (Bl w (w.alloc (J5 (stC s x) 32))):=znw w _
 go_enter func13,ntmps13
 go_upto_region 1 with fail
 generalize w.alloc (J5 (stC s x) 32)=w0 at *;have Q:w.heap.size<w0.heap.size:=y.lt
 go_wp2_with fail
 go_loopw [3,7] (fun v i wl=>∃ k:Nat,k<=6/\i=J I (k:Int)/\z3w wl w0.heap.size v (z2G s.V k)/\Hid (Bl w0 wl)) (fun _ i _=>(6 - intOf i).toNat)
 case atStart=>exact⟨0,by omega,rfl,z3w.nil _ _,Below.refl _ _⟩
 case round =>
  obtain⟨k,hk,rfl,hown,o⟩:=hrel;have H:w0.heap.size<=wr.heap.size:=o.out.size
  by_cases q:k<6
  ·have R:=y.later o.out Q;obtain⟨c0,c1,c2,c3,Y⟩:=R.val k q;have Z:(k:Int)<6:=by omega
   have a0:=z1n.1 (C k q);have z:Hid (z2G s.V (k+1)=if (decide (0<pwr (s.V k)) && !(s.V k).jail)=true then z2G s.V k ++ [((k:Int),pwr (s.V k))] else z2G s.V k):=rfl;have S:=z3Q s.V k;have T:pwr (s.V k)=(s.V k).tok / 100:=rfl;rw[T]at z;clear c1 c2 Y R T;generalize (s.V k).jail=jj at *;generalize (s.V k).tok=tt at *
   go_wp2_with (at_builtin;refine wpList_append_own_at _ rfl _ _ 33 rfl w0.heap.size 74 W (J4 #[J I 0,J I 0]) 2 16 underlying33 X D E F rfl (by decide) _ _ _ rfl (World.ownsRow.alloc hown _) ⟨wr.heap.size,0,none⟩ 1 1 [J I (k:Int),J I (tt / 100)] rfl rfl (z7h _ _ _ _) (by intro u hu;simp at hu;rcases hu with rfl | rfl <;> rfl) (by unfold maxLen;omega) (by omega) (by simp;omega) ?_;intro v' w1 j l _ a1)
   ·have hb:Bl w0 w1:=z3w.grow hown o.out l (Nat.le_refl _) H;have r:z2G s.V (k+1)=z2G s.V k ++ [((k:Int),tt / 100)]:=by rw[z.out,if_pos (by simp_all)]
    refine⟨⟨k+1,by omega,by go_num,?_,hb⟩,by simp[intOf];omega⟩
    rw[r];exact z3w.append j rfl
   ·have r:z2G s.V (k+1)=z2G s.V k:=by rw[z.out,if_neg (by simp_all)]
    exact⟨⟨k+1,by omega,by go_num,by rw[r];exact hown,o.out⟩,by simp[intOf];omega⟩
   ·have r:z2G s.V (k+1)=z2G s.V k:=by rw[z.out,if_neg (by simp;intro h;omega)]
    exact⟨⟨k+1,by omega,by go_num,by rw[r];exact hown,o.out⟩,by simp[intOf];omega⟩
  ·obtain rfl:k=6:=by omega
   have m:Hid (Bl w wr):=G.out.trans (o.out.mono (Nat.le_of_lt Q));have K:=z3Q s.V 6;have p:Hid (z4Y s.V=z1D ltV ((z1D ltP (z2G s.V 6)).take 4)):=rfl
   rcases hown.row with⟨rfl,hnil⟩ | ⟨g,cap,rfl,hg,hrow,hcap,hmax⟩
   ·have b:Hid (z4Y s.V=[]):=by rw[p.out,hnil];rfl
    clear hnil hown p y C
    go_wp2_with (go_at_call 37;refine (q0U _ _).mono ?_;rintro e w1⟨rfl,rfl⟩)
    go_ret;exact⟨_,rfl,.inl ⟨rfl,b.out⟩,m.out⟩
   ·have A:=q7u g cap (z2G s.V 6) wr hrow (by omega)
    rw[<- z1K ltP (z2G s.V 6)]at K hcap A ⊢;have M:=A;clear hrow hown y C M;generalize z1D ltP (z2G s.V 6)=L at *;unfold maxLen at hmax;have a2:(0:Int)<=(L.length:Int):=by omega
    have a3:(L.length:Int)<=(cap:Int):=by omega
    by_cases h4:L.length<=4
    ·have N:(L.length:Int)<=4:=by omega
     have b:Hid (z4Y s.V=z1D ltV L):=by rw[p.out,List.take_of_length_le h4];exact rfl
     go_wp2_with (first
      | (go_at_call 37;have _m:=P;refine (q2e g cap L _ (by exact a.out.1) (by omega)).mono ?_;rintro e w2⟨rfl,c⟩;have d:=J6 c;clear c)
      | (go_at_call 37;refine A.mono ?_;rintro e w1⟨rfl,f⟩;have a:=J6 f;clear f;have P:True:=trivial))
     go_ret;have t:=a.out.2.size;refine⟨_,rfl,.inr ⟨g,cap,?_,by omega,by rw[b.out];exact d.out.1,by rw[b.out,z1K];exact hcap,by unfold maxLen;exact hmax⟩,?_⟩
     ·rw[b.out,z1K];rfl
     ·exact (m.out.trans (a.out.2.below (B:=w.heap.size) (by omega) (by omega))).trans (d.out.2.below (by omega) (by omega))
    ·have N:4<(L.length:Int):=by omega
     have n:(L.take 4).length=4:=by rw[List.length_take];omega
     have U:=fun w h=>q2e g cap (L.take 4) w h (by omega)
     rw[n]at U;have a4:(4:Int)<=(cap:Int):=by omega
     go_wp2_with (first
      | (go_at_call 37;have _m:=P;refine (U _ (by exact a.out.1.take 4)).mono ?_;rintro e w2⟨rfl,c⟩;have d:=J6 c;clear c)
      | (go_at_call 37;refine A.mono ?_;rintro e w1⟨rfl,f⟩;have a:=J6 f;clear f;have P:True:=trivial))
     go_ret;have t:=a.out.2.size;refine⟨_,rfl,.inr ⟨g,cap,?_,by omega,by rw[p.out];exact d.out.1,by rw[p.out,z1K,n];omega,by unfold maxLen;exact hmax⟩,?_⟩
     ·rw[p.out,z1K,n];rfl
     ·exact (m.out.trans (a.out.2.below (B:=w.heap.size) (by omega) (by omega))).trans (d.out.2.below (by omega) (by omega))
end
namespace Pv
open Go.RowKit
theorem z7k{α:Type}{l:List α}{k:Nat}(h:k<l.length):∃ x,l[k]?=some x/\l.drop k=x :: l.drop (k+1):=⟨l[k],List.getElem?_eq_getElem h,List.drop_eq_getElem_cons h⟩
theorem q0Z(a b:List (Int×Int))(u v:Value)(P P':Nat->Prop)(w:World)(hu:Rep P w u 2 16 (pwC a))(M:Rep P' w v 2 16 (pwC b)) :
  Calls prog 70 #[u,v] w fun e w'=>e=.returned (J3 (decide (a=b)))/\Bl w w':=by
 obtain⟨A,C,rfl,V,-,N,-⟩:=hu.open (z0r _) (by decide)
 obtain⟨A',C',rfl,E,-,n,-⟩:=M.open (z0r _) (by decide)
 have W:=J6 N;have F:=J6 n;have X:a.length<=8796093022202:=by omega
 have Y:b.length<=8796093022202:=by omega
 obtain⟨G,H⟩:∃ G,decide (a=b)=G:=⟨_,rfl⟩;have K:=J6 H;rw[H];clear N n hu M V E H
 go_enter func70,ntmps70
 by_cases hl:a.length=b.length
 ·have m:(a.length:Int)=(b.length:Int):=by omega
  have o:((a.length:Int) != (b.length:Int))=false:=by simpa using m
  go_upto_region 4 with fail
  go_loopw [13] (fun i wl=>∃ (k:Nat),k<=a.length/\i=J I (k:Int)/\Hid (G=decide (a.drop k=b.drop k)/\Bl w wl)) (fun i _=>a.length - (intOf i).toNat)
  case atStart=>exact⟨0,Nat.zero_le _,rfl,by rw[List.drop_zero,List.drop_zero];exact K.out.symm,Below.refl _ _⟩
  case round =>
   obtain⟨k,hk,rfl,c⟩:=hrel
   by_cases q:k<a.length
   ·have Z:(k:Int)<(a.length:Int):=by omega
    have a0:(k:Int)<(b.length:Int):=by omega
    obtain⟨x,Q,hd⟩:=z7k q;obtain⟨y,R,r⟩:=z7k (l:=b) (k:=k) (by omega)
    obtain⟨t,z,rfl,-,s,hcell⟩:=W.out (by omega)
    obtain⟨bb,ob,rfl,-,g,hcell'⟩:=F.out (by omega)
    have S:a.getD k (0,0)=x:=by simp[List.getD,Q]
    have T:b.getD k (0,0)=y:=by simp[List.getD,R]
    obtain⟨p0,p1⟩:=z2t a k q;obtain⟨q0,q1⟩:=z2t b k (by omega)
    rw[S]at p0 p1;rw[T]at q0 q1;have c0:wr.cell? ⟨t,z+k * 2,none⟩=some (J I x.1):=(c.out.2.cell (p:=⟨t,z+k * 2,none⟩) s).trans (hcell _ _ p0);have c1:wr.cell? ⟨t,z+k * 2+1,none⟩=some (J I x.2):=(c.out.2.cell (p:=⟨t,z+k * 2+1,none⟩) s).trans (hcell _ _ p1);have d0:wr.cell? ⟨bb,ob+k * 2,none⟩=some (J I y.1):=(c.out.2.cell (p:=⟨bb,ob+k * 2,none⟩) g).trans (hcell' _ _ q0);have d1:wr.cell? ⟨bb,ob+k * 2+1,none⟩=some (J I y.2):=(c.out.2.cell (p:=⟨bb,ob+k * 2+1,none⟩) g).trans (hcell' _ _ q1);have B:Hid (G=decide (x :: a.drop (k+1)=y :: b.drop (k+1))):=by have:=c.out.1;rw[hd,r]at this;exact this
    have j:=J6 c.out.2;clear c hd r Q R S T p0 p1 q0 q1 hcell hcell';obtain⟨D,U⟩:=x;obtain⟨y1,y2⟩:=y;dsimp only at c0 c1 d0 d1
    by_cases d:D=y1/\U=y2
    ·obtain⟨rfl,rfl⟩:=d;have f:Hid (G=decide (a.drop (k+1)=b.drop (k+1))):=by rw[Hid,B.out];simp
     clear B
     go_upto_region 6 with fail
     go_quiet (fail);simp only[Exit.then];apply_assumption;go_wp2
     first | exact⟨⟨k+1,by omega,by go_num,f.out,below_drewN j.out _⟩,by simp[intOf];omega⟩ | exact⟨⟨k+1,by omega,by go_num,f.out,j.out⟩,by simp[intOf];omega⟩ | ((repeat apply Exists.intro);exact⟨⟨k+1,by omega,by go_num,f.out,below_drewN j.out _⟩,rfl⟩) | ((repeat apply Exists.intro);exact⟨⟨k+1,by omega,by go_num,f.out,j.out⟩,rfl⟩)
    ·have e:G=false:=by
      rw[B.out];refine decide_eq_false fun h=>d ?_;have:=(List.cons.inj h).1;exact⟨congrArg Prod.fst this,congrArg Prod.snd this⟩
     subst e
     have L:D≠y1∨(D=y1/\U≠y2):=by
      by_cases h:D=y1
      ·exact .inr ⟨h,fun h2=>d ⟨h,h2⟩⟩
      ·exact .inl h
     clear B d K
     rcases L with h1 | ⟨rfl,h2⟩
     ·go_upto_region 6 with fail
      go_quiet (fail);simp only[Exit.then];apply_assumption;go_wp2;go_ret
      first | exact⟨rfl,below_drewN j.out _⟩ | exact⟨rfl,j.out⟩
     ·go_upto_region 6 with fail
      go_quiet (fail);simp only[Exit.then];apply_assumption;go_wp2;go_ret
      first | exact⟨rfl,below_drewN j.out _⟩ | exact⟨rfl,j.out⟩
   ·obtain rfl:k=a.length:=by omega
    have e:G=true:=by have:=c.out.1;rw[List.drop_length,hl,List.drop_length]at this;simpa using this
    subst e;go_wp2;go_ret;exact⟨rfl,c.out.2⟩
 ·have m:¬ ((a.length:Int)=(b.length:Int)):=by omega
  have o:((a.length:Int) != (b.length:Int))=true:=by simpa using m
  have e:G=false:=by rw[<- K.out];exact decide_eq_false fun h=>hl (by rw[h])
  subst e;go_wp2;go_ret;exact⟨rfl,Below.refl _ _⟩
theorem q7G:(prog.info? 74).map (fun i=>(i.zero,i.size,i.bytes))=some (some (J4 #[J I 0,J I 0]),2,16):=by kernel_rfl
theorem q6A(w:World)(a:Option Addr)(n c:Nat):(binOp .eql 33 (J1 a n c) (J1 none 0 0)).run prog w=.ok (J3 a.isNone) w:=by
 simp[binOp,run_equal_slice_nil w 33 74 a n c underlying33]
theorem q4O(w:World):(w.alloc (J5 #[] 74)).ownsRow w.heap.size 74 2 (J1 (some ⟨w.heap.size,0,none⟩) 0 0) 0 []:=⟨rfl,.inr ⟨w.heap.size,0,#[],rfl,Nat.le_refl _,heap_alloc_new _ _,Nat.le_refl _,Nat.zero_le _,rfl,rfl⟩⟩
theorem q3S{P:Nat->Prop}(w:World)(a:Addr)(c:Nat)(l:List (Int×Int))(h:Rep P w (J1 (some a) l.length c) 2 16 (pwC l)) :
  ∃ A C w',(Builtin.append_ #[33,33] 33 #[J1 (some ⟨w.heap.size,0,none⟩) 0 0,J1 (some a) l.length c]).run prog (w.alloc (J5 #[] 74))=.ok (J1 A l.length C) w'/\w'.ownsRow w.heap.size 74 2 (J1 A l.length C) l.length (pwC l)/\Bl w w':=by
 obtain⟨o,p,e,f,i⟩:=info_parts q7G;obtain⟨z,B,q,hl,-,-,m⟩:=(h.over (znw w (J5 #[] 74))).open (z0r l) (by decide)
 cases q
 obtain⟨r,w',s,n,b,-,t⟩:=run_append_own_at (P:=prog) (w.alloc (J5 #[] 74)) w.heap.size 33 33 74 o _ 2 16 underlying33 p e f i rfl (by omega) _ 0 [] (q4O w) a l.length c (pwC l) (z0r l)
  (fun j u v=>m a rfl j u v) (z8L l) (by simp only[maxLen];omega) (by omega) (by simp)
 rw[Nat.zero_add,List.nil_append]at n
 have x:∃ A C,r=J1 A l.length C:=by
  rcases n.2 with⟨rfl,h0⟩ | ⟨g,cap,cur,rfl,_⟩
  ·rw[h0];exact⟨none,0,rfl⟩
  ·exact⟨_,_,rfl⟩
 obtain⟨A,C,rfl⟩:=x;refine⟨A,C,w',s,n,?_⟩;have d:=(Below.refl w.heap.size w).alloc (Nat.le_refl _) (J5 #[] 74);exact⟨b.os.trans d.os,b.tape.trans d.tape,b.output.trans d.output,Nat.le_trans d.size b.size,fun k y=>(b.block k (by simp;omega) (by simp[Value.ownBlock];omega)).trans (d.block k y)⟩
theorem q0W{P:Nat->Prop}{ops:Array Oper}{rest:List Oper}{o:Oper}{a:Act}{w:World}{Q:Exit->Act->World->Prop}(g:o.guard=none)(b:o.type=33)(p q:Operand)
  (d:o.op=Op.call { callee:=Callee.builtin Builtin.append,args:=#[p,q],argTypes:=#[33,33] }) (e:Addr) (c:Nat) (l:List (Int×Int)) (h:a.eval p=J1 (some ⟨w.heap.size,0,none⟩) 0 0) (i:a.eval q=J1 (some e) l.length c) (j:Rep P w (J1 (some e) l.length c) 2 16 (pwC l))
  (k:∀ A C w',w'.ownsRow w.heap.size 74 2 (J1 A l.length C) l.length (pwC l)/\Bl w w'->wpList prog ops Q rest (a.put o.dst (J1 A l.length C)) w'):wpList prog ops Q (o :: rest) a (w.alloc (J5 #[] 74)):=by
 refine wpList_plain g fun _ f=>?_;unfold Oper.wp;obtain⟨A,C,w',m,h1⟩:=q3S w e c l j
 simp[execOp,d,resolve,invoke,builtin,h,i,b,m,Result.andThen]
 exact f _ _ (k _ _ _ h1)
theorem q1N(l:List (Int×Int))(v:Value)(P:Nat->Prop)(w:World)(h:Rep P w v 2 16 (pwC l)) :
  Calls prog 73 #[v] w fun e w'=>∃ u,e=.returned u/\Rep (fun b=>w.heap.size<=b) w' u 2 16 (pwC l)/\Bl w w':=by
 obtain⟨A,C,rfl,hl,h0,-,-⟩:=id (h.open (z0r l) (by decide))
 cases A with
 | none =>
  obtain⟨c,rfl⟩:=h0 rfl;obtain rfl:l=[]:=List.length_eq_zero_iff.1 c;have hq:=fun w=>q6A w none 0 0;clear h h0
  go_enter func73,ntmps73
  go_wp2;go_ret;exact⟨_,rfl,Rep.nil _ _ _ _,Below.refl _ _⟩
 | some a =>
  have hq:=fun w=>q6A w (some a) l.length C;have d:=J6 h;clear h h0
  go_enter func73,ntmps73
  go_upto_region 3 with fail
  apply wp_region_lit
  iterate 6 go_step
  refine q0W rfl rfl _ _ rfl a C l rfl rfl d.out ?_;rintro A' C' w'⟨h1,h2⟩;have f:=J6 h1;have g:=J6 h2;clear h1 h2;go_wp2;go_ret;exact⟨_,rfl,Rep.own f.out (by omega),g.out⟩
end Pv
end Go.Proofs.YtjghbciepinofaaGreat
