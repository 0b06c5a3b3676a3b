/- Parts of the proof: SC WT0 WLY WO2 WLZ WSP WMP WTM WPLm WLM. -/
import Derived.Test.YtmopekkhmhhcaaaGreatRows
import Derived.Test.YtmopekkhmhhcaaaGreatEK23
import Derived.ChangeOld
set_option maxRecDepth 100000
set_option maxHeartbeats 16000000
namespace Go.Proofs.YtmopekkhmhhcaaaGreat
open Go.Proofs.Tryz
section
open Go.RowKit
theorem j7s:(prog.info? 40).map (·.size)=some 24:=by kernel_rfl
end
namespace Wd
open Go.RowKit Pv Kc
theorem q2u:∀ (l:List Dd) (x:Wo),Inv x->Inv (l.foldl (fun x d=>(doW x d).1) x)
 | [],_,h=>h
 | d :: l,_,h=>q2u l _ (j2R h d)
theorem j4S(l:List Dd):Inv (j8q l):=q2u l _ q8U
theorem j6u(l:List Dd)(k:Nat):Inv (stW l k):=j4S _
noncomputable def j2C(w:World)(p:Pr)(v:PrV):World:=(w.alloc (.cells zeroCells57 57)).setCells w.heap.size 0 (prC p v).toList
theorem q7R(w:World)(p:Pr)(v:PrV):CAt 57 (j2C w p v) w.heap.size (prC p v):=(CAt.new 57 w zeroCells57).z0G (by rw[z0d];rfl)
theorem z3G(w:World)(p:Pr)(v:PrV):Below w.heap.size w (j2C w p v):=z0b (Nat.le_refl _) _ _ _ (znw w _)
theorem z7Y{P:Nat->Prop}{w:World}{p:Pr}{v:PrV}(h:PIn P w p v):(z6p (.pointer (some ⟨w.heap.size,0,none⟩)) (.agg (prC p v))).run prog (w.alloc (.cells zeroCells57 57))=.ok () (j2C w p v):=z0k (CAt.new _ w _) z0d (z0a p v) (z1c h)
end Wd
namespace Wd
open Go.ChangeShapes Go.WideShapes Go.ChangeAt Go.RowKit Go.Deep Pv
def ddL(x:Dd):List Value:=[.int .i64 x.k,.int .i64 x.c,.int .i64 x.d,.int .i64 x.v,.int .i64 x.n,.bool x.b,.bool x.f]
structure z7n(w:World)(ao:Option Addr)(b off:Nat)(l:List Dd):Prop where
 adr:0<l.length->ao=some ⟨b,off,none⟩
 len:l.length<=maxLen
 cell:∀ (i:Nat) (x:Dd),l[i]?=some x->w.rangeAt b (off+i * 7) (ddL x)
theorem z7n.lt{w:World}{ao:Option Addr}{b off:Nat}{l:List Dd}(h:z7n w ao b off l)(h0:0<l.length):b<w.heap.size:=
 World.block_lt_of_cell? w ⟨b,off+0 * 7+0,none⟩ (h.cell 0 l[0] (List.getElem?_eq_getElem h0) 0 _ rfl)
theorem z7n.over{w w':World}{B:Nat}{ao:Option Addr}{b off:Nat}{l:List Dd}(h:z7n w ao b off l)(hb:Below B w w')(hB:w.heap.size<=B):z7n w' ao b off l:=by
 refine ⟨h.adr,h.len,fun i x hx j v hv=>?_⟩;have h0:0<l.length:=by have:=(List.getElem?_eq_some_iff.1 hx).1;omega
 have:=h.lt h0;rw[hb.cell (p:=⟨b,off+i * 7+j,none⟩) (by show b<B;omega)]
 exact h.cell i x hx j v hv
theorem j6W:(prog.info? 29).map (·.size)=some 7:=by kernel_rfl
def j2D(v:Value):Sem Value:=Instr.loadAt 29 v
theorem q0v(v:Value):Instr.loadAt 29 v=j2D v:=rfl
theorem z7n.load{w:World}{ao:Option Addr}{b off:Nat}{l:List Dd}(h:z7n w ao b off l){i:Nat}{x:Dd}(hx:l[i]?=some x):(j2D (.pointer (some ⟨b,off+i * 7,none⟩))).run prog w=.ok (.agg (ddC x)) w:=
 run_loadAt_mid (P:=prog) w b (off+i * 7) 29 (ddL x) _ (h.cell i x hx) underlying29 rfl (by rw[j6W];rfl)
theorem j4s{β:Type}{p:Nat->β->Prop}(d:β){n:Nat}(h:∀ i,i<n->∃ y,p i y):∃ f:Nat->β,∀ i,i<n->p i (f i):=by
 refine ⟨fun i=>if hi:i<n then Classical.choose (h i hi) else d,fun i hi=>?_⟩;simp only[dif_pos hi];exact Classical.choose_spec (h i hi)
theorem cI':prog.cellsOf 3=1:=by kernel_rfl
theorem cT':prog.cellsOf 4=1:=by kernel_rfl
theorem cDd:prog.cellsOf 29=7:=by kernel_rfl
section
variable {H:Type} {enc:TypeId×Value->H} {W:World}
theorem j4j{m:Nat}{l:List Value}{y:DataW H×List MemPlace}(h:DataW.trod enc prog W 0 (fun _=>true) true m 29 l=some y):∃ x:Dd,l=ddL x:=by
 obtain ⟨xs,n,_,_,hl,hxl,hx⟩:=DataW.trod_struct underlying29 h;rw[cDd]at hl
 match l,hl with
 | [a0,a1,a2,a3,a4,a5,a6],_ =>
  match xs,hxl with
  | [y0,y1,y2,y3,y4,y5,y6],_ =>
   have t0:=hx 0 _ rfl;have t1:=hx 1 _ rfl;have t2:=hx 2 _ rfl;have t3:=hx 3 _ rfl;have t4:=hx 4 _ rfl;have t5:=hx 5 _ rfl;have t6:=hx 6 _ rfl
   simp[cI',cT']at t0 t1 t2 t3 t4 t5 t6
   obtain ⟨q0,e0,_⟩:=DataW.trod_int underlying3 t0;obtain ⟨q1,e1,_⟩:=DataW.trod_int underlying3 t1;obtain ⟨q2,e2,_⟩:=DataW.trod_int underlying3 t2;obtain ⟨q3,e3,_⟩:=DataW.trod_int underlying3 t3;obtain ⟨q4,e4,_⟩:=DataW.trod_int underlying3 t4;obtain ⟨q5,e5,_⟩:=DataW.trod_bool underlying4 t5;obtain ⟨q6,e6,_⟩:=DataW.trod_bool underlying4 t6
   simp at e0 e1 e2 e3 e4 e5 e6
   subst e0 e1 e2 e3 e4 e5 e6;exact ⟨⟨q0,q1,q2,q3,q4,q5,q6⟩,rfl⟩
theorem z8z{r:Reach}{b0:Nat}{v:Value}{d:DataW H}{p:List MemPlace}(hv:Value.okWide prog W r b0 22 v)(h:DataW.Trod enc prog W 0 (fun _=>true) true 22 v d p) :
  ∃ (l:List Dd) (ao:Option Addr) (c b off:Nat),v=.slice ao l.length c/\z7n W ao b off l/\(ao=none->c=0)/\l.length<=c:=by
 obtain ⟨a,len,cap,rfl⟩:=okWide_slice underlying22 hv;obtain ⟨fuel,hf⟩:=h
 rcases open_slice underlying22 hf with ⟨h0,_⟩ | ⟨a,len',cap',k,n,D,Pl,hcs,_,hlc,hmx,hk,hy,hx⟩
 ·simp[Value.cells]at h0
  obtain ⟨rfl,rfl,rfl⟩:=h0;exact ⟨[],none,0,0,0,rfl,⟨fun h=>absurd h (by simp),by simp,fun i x h=>by simp at h⟩,fun _=>rfl,Nat.le_refl _⟩
 simp[Value.cells]at hcs
 obtain ⟨rfl,rfl,rfl⟩:=hcs;simp only[if_true]at hk;subst hk;rw[cDd]at hx
 obtain ⟨g,hg⟩:=j4s (n:=k) (p:=fun i (x:Dd)=>W.cells? 0 (a.add (i * 7)) 7=some (ddL x)) ⟨0,0,0,0,0,false,false⟩ (fun i hi=>by
  obtain ⟨cs',h1,h2⟩:=hx i hi;obtain ⟨x,rfl⟩:=j4j h2
  exact ⟨x,h1⟩)
 have hlen:((List.range len).map g).length=len:=by simp
 by_cases h0:len=0
 ·subst h0;exact ⟨[],some a,k,0,0,rfl,⟨fun h=>absurd h (by simp),by simp,fun i x h=>by simp at h⟩,(fun h=>by cases h),Nat.zero_le _⟩
 have hcell:∀ i,i<k->∀ j v,(ddL (g i))[j]?=some v->W.cell? ((a.add (i * 7)).add j)=some v:=fun i hi j v hv=>by
  obtain ⟨_,hlen',hc⟩:=World.cells?_some (hg i hi);have hj:j<7:=by have:=(List.getElem?_eq_some_iff.1 hv).1;simpa [ddL] using this
  rw[hc j hj];exact hv
 obtain ⟨b,off,spot⟩:=a
 have hspot:spot=none:=by
  have:=hcell 0 (by omega) 0 _ rfl
  simpa [Addr.add] using World.cell?_spot this
 subst hspot;refine ⟨(List.range len).map g,some ⟨b,off,none⟩,k,b,off,by rw[hlen],⟨fun _=>rfl,by rw[hlen];omega,fun i x hi=>?_⟩,(fun h=>by cases h),by rw[hlen];omega⟩
 have hil:i<len:=by have:=(List.getElem?_eq_some_iff.1 hi).1;simpa using this
 obtain rfl:g i=x:=by simpa [hil] using hi
 have hc:=hcell i (by omega)
 simp only[Addr.add_lit]at hc;intro j v hv;exact hc j v hv
end
end Wd
namespace Wd
open Go.RowKit Pv Kc
def PLk(n:Nat)(w:World)(g:Nat)(p:Pr)(v:PrV):Prop:=CAt 57 w g (prC p v)/\PIn (fun b=>n<=b) w p v/\n<=g
theorem PLk.over{n:Nat}{w w':World}{g:Nat}{p:Pr}{v:PrV}(h:PLk n w g p v)(hb:Below w.heap.size w w'):PLk n w' g p v:=⟨h.1.over hb,h.2.1.over hb,h.2.2⟩
theorem PLk.alt{n g0:Nat}{w w':World}{g:Nat}{p:Pr}{v:PrV}(h:PLk n w g p v)(ha:Alt g0 w w')(hg:g0<n):PLk n w' g p v:=
 ⟨ha.cat (by have:=h.2.2;omega) h.1,h.2.1.keep fun b hb hl=>ha.block b hl (by omega),h.2.2⟩
theorem PLk.load{n:Nat}{w:World}{g:Nat}{p:Pr}{v:PrV}(h:PLk n w g p v):(z9Q (.pointer (some ⟨g,0,none⟩))).run prog w=.ok (.agg (prC p v)) w:=z0j h.1 (z0a _ _)
theorem PLk.lt{n:Nat}{w:World}{g:Nat}{p:Pr}{v:PrV}(h:PLk n w g p v):g<w.heap.size:=h.1.lt
theorem PLk.mk{n k:Nat}{w wb:World}{g:Nat}{p:Pr}{v:PrV}(hc:CAt 57 wb g (prC p v))(h:PIn (fun b=>k<=b) w p v)(hb:Below w.heap.size w wb)(hk:n<=k)(hg:n<=g):PLk n wb g p v:=⟨hc,(h.mono (P':=fun b=>n<=b) fun _ _ hp=>Nat.le_trans hk hp).over hb,hg⟩
end Wd
namespace Wd
open Go.RowKit Pv
def j2W(v:Value):Sem Value:=Instr.loadAt 38 v
theorem z9X(v:Value):Instr.loadAt 38 v=j2W v:=rfl
def j2T(v:Value):Sem Value:=Instr.loadAt 40 v
theorem q5W(v:Value):Instr.loadAt 40 v=j2T v:=rfl
def j3b(v:Value):Sem Value:=Instr.loadAt 35 v
theorem q6f(v:Value):Instr.loadAt 35 v=j3b v:=rfl
theorem j8w{w:World}{b:Nat}{p:Pr}{v:PrV}(h:CAt 57 w b (prC p v)):w.rangeAt b 2 (bkC p.s.b).toList:=by
 intro j u hv;have hj:j<7:=(List.getElem?_eq_some_iff.1 hv).1;refine z6J h j u ?_;simp only[stC,stL];rw[List.getElem?_append_left (show j<(bkC p.s.b).toList.length from hj)];exact hv
theorem j8J{w:World}{b:Nat}{p:Pr}{v:PrV}(h:CAt 57 w b (prC p v)):w.rangeAt b 9 (vsC p.s.V).toList:=by
 intro j u hv;have hj:j<30:=(List.getElem?_eq_some_iff.1 hv).1
 have:=z6J h (7+j) u (by
  simp only[stC,stL];rw[List.getElem?_append_right (by show 7<=7+j;omega),show 7+j - (bkC p.s.b).toList.length=j from by show 7+j - 7=j;omega,List.getElem?_append_left (show j<(vsC p.s.V).toList.length from hj)]
  exact hv)
 rwa [show 2+(7+j)=9+j by omega]at this
theorem j8n{w:World}{b:Nat}{p:Pr}{v:PrV}(h:CAt 57 w b (prC p v)):w.rangeAt b 39 (shC p.s.S).toList:=by
 intro j u hv;have hj:j<24:=(List.getElem?_eq_some_iff.1 hv).1
 have:=z6J h (37+j) u (by
  simp only[stC,stL]
  rw[List.getElem?_append_right (by show 7<=37+j;omega),show 37+j - (bkC p.s.b).toList.length=30+j from by show 37+j - 7=30+j;omega,
   List.getElem?_append_right (by show 30<=30+j;omega),show 30+j - (vsC p.s.V).toList.length=j from by show 30+j - 30=j;omega,List.getElem?_append_left (show j<(shC p.s.S).toList.length from hj)]
  exact hv)
 rwa [show 2+(37+j)=39+j by omega]at this
theorem q8z{w:World}{b:Nat}{p:Pr}{v:PrV}(h:CAt 57 w b (prC p v)):(w.cell? ⟨b,0,none⟩=some (.int .i64 p.h)/\w.cell? ⟨b,1,none⟩=some (.int .i64 p.t)/\w.cell? ⟨b,63,none⟩=some v.ws/\w.cell? ⟨b,65,none⟩=some v.set/\w.cell? ⟨b,94,none⟩=some (.int .i64 p.ml)/\w.cell? ⟨b,95,none⟩=some (.int .i64 p.mn)/\w.cell? ⟨b,96,none⟩=some v.q)/\(j3b (.pointer (some ⟨b,2,none⟩))).run prog w=.ok (.agg (bkC p.s.b)) w/\(j2W (.pointer (some ⟨b,9,none⟩))).run prog w=.ok (.agg (vsC p.s.V)) w/\(j2T (.pointer (some ⟨b,39,none⟩))).run prog w=.ok (.agg (shC p.s.S)) w:=by
 have h1:=run_loadAt_mid (P:=prog) w b 2 35 _ _ (j8w h) underlying35 rfl (by kernel_rfl)
 have h2:=run_loadAt_mid (P:=prog) w b 9 38 _ _ (j8J h) underlying38 rfl (by rw[q7w];rfl)
 have h3:=run_loadAt_mid (P:=prog) w b 39 40 _ _ (j8n h) underlying40 rfl (by rw[j7s];rfl)
 refine ⟨⟨h.cell 0,h.cell 1,h.cell 63,h.cell 65,h.cell 94,h.cell 95,h.cell 96⟩,?_,?_,?_⟩
 ·change (Instr.loadAt 35 _).run prog w=_
  simpa using h1
 ·change (Instr.loadAt 38 _).run prog w=_
  simpa using h2
 ·change (Instr.loadAt 40 _).run prog w=_
  simpa using h3
attribute [local go_sem ↓] z9X q5W q6f
end Wd
namespace Wd
open Go.RowKit Pv Kc
def tk(U V:Nat->Vd)(k:Nat):Int:=if (V k).jail=true/\(V k).dead=false/\(U k).jail=false then j3I (U k) else 0
def Tk(t:Nat->Int):Nat->Int
 | 0=>0
 | k+1=>Tk t k+t k
def Mk(g:Int)(t:Nat->Int):Nat->Int
 | 0=>g
 | k+1=>j3W (Mk g t k) (t k)
theorem powV_pos(x:Vd):1<=j3I x:=by unfold j3I;split <;> omega
theorem tk_pos(U V:Nat->Vd)(k:Nat):0<=tk U V k:=by
 unfold tk
 split
 ·have:=powV_pos (U k);omega
 ·exact Int.le_refl _
theorem Tk_set{t t':Nat->Int}{v:Nat}(hv:v<6)(h:∀ k,k≠v->t' k=t k):Tk t' 6=Tk t 6 - t v+t' v:=by
 rcases (show v=0∨v=1∨v=2∨v=3∨v=4∨v=5 by omega) with rfl | rfl | rfl | rfl | rfl | rfl
 all_goals
  have a0:=h 0;have a1:=h 1;have a2:=h 2;have a3:=h 3;have a4:=h 4;have a5:=h 5;simp only[Tk];omega
theorem Mk_g(g:Int)(t:Nat->Int):∀ n,g<=Mk g t n
 | 0=>Int.le_refl _
 | n+1=>by
  have:=Mk_g g t n;unfold Mk j3W
  split <;> omega
theorem Mk_ge(g:Int)(t:Nat->Int):∀ n k,k<n->t k<=Mk g t n
 | 0,_,h=>absurd h (Nat.not_lt_zero _)
 | n+1,k,h=>by
  unfold Mk j3W
  by_cases e:k=n
  ·subst e
   split <;> omega
  ·have:=Mk_ge g t n k (by omega)
   split <;> omega
theorem Mk_or(g:Int)(t:Nat->Int):∀ n,Mk g t n=g∨∃ k,k<n/\Mk g t n=t k
 | 0=>.inl rfl
 | n+1=>by
  unfold Mk j3W
  split
  ·exact .inr ⟨n,by omega,rfl⟩
  ·rcases Mk_or g t n with h | ⟨k,hk,h⟩
   ·exact .inl h
   ·exact .inr ⟨k,by omega,h⟩
structure MQ(U:Nat->Vd)(f s g:Int)(p:Pr):Prop where
 a:s+Tk (tk U p.s.V) 6<=f - p.ml
 b:s+Tk (tk U p.s.V) 6 - Mk g (tk U p.s.V) 6<f
 c:∀ k,k<6->(p.s.V k).jail=false->(U k).jail=false/\(p.s.V k).tok=(U k).tok
 l:-1125899906842624<=p.ml/\p.ml<=2305843009213693952
theorem powV_le{x:Vd}(h:0<=x.tok/\x.tok<=1125899906842624):j3I x<=1125899906842624:=by unfold j3I;split <;> omega
theorem mq_deal{U:Nat->Vd}{f s g:Int}{p:Pr}(h:MQ U f s g p)(hg:z0h p.s=true)(h0:0<=g)(c:Nat){x:Pkt}(hx:j2B x):MQ U f s g (z1A p c x).1:=by
 unfold z1A
 split
 ·exact ⟨h.a,h.b,h.c,h.l⟩
 ·split
  ·rename_i h4;have hv:=hx.2 (.inr h4)
   split
   ·exact h
   ·generalize j3W x.i (p.L c).base=q;have hv6:x.v.toNat<6:=by omega
    generalize x.v.toNat=v at *
    have e1:((z8d p.s v q).V v).jail=true/\((z8d p.s v q).V v).dead=true:=by
     unfold z8d z5r z1E
     simp
    have e2:∀ i,i≠v->(z8d p.s v q).V i=p.s.V i:=fun i e=>by
     unfold z8d z5r z1G z1E
     simp[e]
    have t0:tk U (z8d p.s v q).V v=0:=by
     unfold tk;rw[if_neg (by rw[e1.2];simp)]
    have ts:∀ k,k≠v->tk U (z8d p.s v q).V k=tk U p.s.V k:=fun k hk=>by
     unfold tk;rw[e2 k hk]
    have hT:=Tk_set hv6 ts;have hp:=tk_pos U p.s.V v;have ha:=h.a;have hb:=h.b;have hM:=Mk_g g (tk U (z8d p.s v q).V) 6;refine ⟨by dsimp only;omega,?_,fun k hk hj=>?_,h.l⟩
    ·dsimp only
     rcases Mk_or g (tk U p.s.V) 6 with e | ⟨k,hk,e⟩
     ·omega
     ·by_cases ek:k=v
      ·subst ek;omega
      ·have:=Mk_ge g (tk U (z8d p.s v q).V) 6 k hk;rw[ts k ek]at this;omega
    ·by_cases e:k=v
     ·subst e;dsimp only at hj;rw[e1.1]at hj;cases hj
     ·dsimp only at hj ⊢;rw[e2 k e]at hj ⊢;exact h.c k hk hj
  ·rename_i h2 h4
   split
   ·exact ⟨h.a,h.b,h.c,h.l⟩
   ·rename_i hj
    split
    ·exact h
    ·rename_i hml;have hk3:x.k=3:=by have:=hx.1;omega
     have hv:=hx.2 (.inl hk3);have hv6:x.v.toNat<6:=by omega
     generalize x.v.toNat=v at *;have hj':(p.s.V v).jail=false:=by simpa using hj
     obtain ⟨c1,c2⟩:=h.c v hv6 hj';have hok:=(z1L _).1 (((z0K p.s).1 hg).2.2.2.2.2.1 v hv6).1
     have hdd:(p.s.V v).dead=false:=by
      cases e:(p.s.V v).dead
      ·rfl
      ·have:=hok.2.2.2.2;rw[hj',e]at this
       simp at this
     have hpw:j3I (p.s.V v)=j3I (U v):=by unfold j3I;rw[c2]
     have hb1:=powV_pos (p.s.V v);have hb2:=powV_le hok.1;have hw:wrap64 (p.ml - j3I (p.s.V v))=p.ml - j3I (p.s.V v):=z0g (by have:=h.l;omega) (by have:=h.l;omega)
     have e2:∀ i,i≠v->(z5r p.s v true (p.s.V v).dead).V i=p.s.V i:=fun i e=>by
      unfold z5r z1E
      simp[e]
     have e1:(z5r p.s v true (p.s.V v).dead).V v={ p.s.V v with jail:=true }:=by
      unfold z5r z1E
      simp
     have t0:tk U p.s.V v=0:=by
      unfold tk;rw[if_neg (by rw[hj'];simp)]
     have t1:tk U (z5r p.s v true (p.s.V v).dead).V v=j3I (U v):=by
      unfold tk;rw[e1,if_pos ⟨rfl,hdd,c1⟩]
     have ts:∀ k,k≠v->tk U (z5r p.s v true (p.s.V v).dead).V k=tk U p.s.V k:=fun k hk=>by
      unfold tk;rw[e2 k hk]
     have hT:=Tk_set hv6 ts;have ha:=h.a;have hM:=Mk_ge g (tk U (z5r p.s v true (p.s.V v).dead).V) 6 v hv6;refine ⟨by dsimp only;rw[hw];omega,by dsimp only;omega,fun k hk hq=>?_,by dsimp only;rw[hw];have:=h.l;omega⟩
     dsimp only at hq ⊢
     by_cases e:k=v
     ·subst e;rw[e1]at hq;cases hq
     ·rw[e2 k e]at hq ⊢;exact h.c k hk hq
theorem mq_steps{U:Nat->Vd}{f s g:Int}(h0:0<=g):∀ (l:List (Int×Pkt)) (z:QS),(∀ a∈l,j2B a.2)->q6C z.p->MQ U f s g z.p->MQ U f s g (l.foldl z1R z).p
 | [],_,_,_,m=>m
 | a :: l,z,ho,h,m=>by
  rw[List.foldl_cons]
  have h1:q6C (z1R z a).p/\MQ U f s g (z1R z a).p:=by
   unfold z1R
   split
   ·exact ⟨h,m⟩
   ·split
    ·exact ⟨z9o h _ (ho a List.mem_cons_self),mq_deal m h.1 h0 _ (ho a List.mem_cons_self)⟩
    ·exact ⟨h,m⟩
  exact mq_steps h0 l _ (fun b hb=>ho b (List.mem_cons_of_mem _ hb)) h1.1 h1.2
theorem tk_self(V:Nat->Vd)(k:Nat):tk V V k=0:=by
 unfold tk;rw[if_neg (by rintro ⟨a,-,b⟩;rw[a]at b;cases b)]
theorem all_lt:∀ (l:List (Int×Int)) (a:Int),a<9223372036854775808->l.foldl (fun s x=>(s+x.2+9223372036854775808) % 18446744073709551616 - 9223372036854775808) a<9223372036854775808
 | [],_,h=>h
 | x :: l,a,_=>all_lt l _ (by have:=Int.emod_lt_of_pos (a+x.2+9223372036854775808) (show (0:Int)<18446744073709551616 by decide);dsimp only;omega)
theorem alw_top(l:List (Int×Int)):Mt.alw (Df.q5j l)<=2305843009213693952:=by
 have h:Df.q5j l<9223372036854775808:=all_lt l 0 (by decide)
 unfold Mt.alw
 split <;> omega
structure MI(p:Pr)(f s g:Int):Prop where
 a:s<=f - p.ml
 b:s - g<f
 g0:0<=g
 gs:g<=s
 f0:1<=f/\f<=2305843009213693952
 l:-1125899906842624<=p.ml/\p.ml<=2305843009213693952
 n:p.mn<=1099511627800
def f0M(p q:Pr)(f:Int):Int:=if q.mn=p.mn then f else Mt.alw (Df.q5j p.set)
def s0M(p q:Pr)(s:Int):Int:=if q.mn=p.mn then s else 0
theorem end_rest{p:Pr}{now:Int}(hok:z0B p=true/\isT now=true/\p.t<=now):(endP p now).1.s.V=(goQ (z0V p now)).p.s.V/\(endP p now).1.ml=(goQ (z0V p now)).p.ml/\(endP p now).1.mn=(z0V p now).mn:=by
 unfold endP;rw[if_pos hok];dsimp only;obtain ⟨-,-,a3,-,a5,a6,-⟩:=z9Z (z1u (z4c (z0L (z0V p now)) now) 0) 1;obtain ⟨-,-,b3,-,b5,b6,-⟩:=z9Z (z4c (z0L (z0V p now)) now) 0;rw[a3,b3,a5,b5,a6,b6];exact ⟨rfl,rfl,(q4M (z0V p now)).mn⟩
theorem Mk_zero(g:Int)(h:0<=g)(V:Nat->Vd):Mk g (tk V V) 6=g:=by
 rcases Mk_or g (tk V V) 6 with e | ⟨k,-,e⟩
 ·exact e
 ·have:=Mk_g g (tk V V) 6;rw[tk_self]at e;omega
theorem Tk_zero(V:Nat->Vd):Tk (tk V V) 6=0:=by
 simp only[Tk,tk_self]
 decide
theorem Mk_le(g:Int){t:Nat->Int}(h:∀ k,0<=t k)(hg:0<=g):∀ n,Mk g t n<=g+Tk t n/\0<=Tk t n
 | 0=>⟨by show g<=g+0;omega,Int.le_refl _⟩
 | n+1=>by
  have h1:=Mk_le g h hg n;have h2:=h n
  show j3W _ _<=g+(Tk t n+t n)/\0<=Tk t n+t n
  unfold j3W
  split <;> omega
theorem Tk_pos(U V:Nat->Vd):0<=Tk (tk U V) 6:=by
 have h:=tk_pos U V;have a0:=h 0;have a1:=h 1;have a2:=h 2;have a3:=h 3;have a4:=h 4;have a5:=h 5;simp only[Tk];omega
theorem mi_end{p:Pr}{now f s g:Int}(hok:z0B p=true/\isT now=true/\p.t<=now)(h:MI p f s g) :
  MI (endP p now).1 (f0M p (endP p now).1 f) (s0M p (endP p now).1 s+Tk (tk p.s.V (endP p now).1.s.V) 6) (Mk (s0M p (endP p now).1 g) (tk p.s.V (endP p now).1.s.V) 6):=by
 obtain ⟨e1,e2,e3⟩:=end_rest hok;have ht:=(j3p now).1 hok.2.1
 have key:∀ f' s' g':Int,0<=g'->g'<=s'->(1<=f'/\f'<=2305843009213693952)->s'<=f' - (z0V p now).ml->s' - g'<f'->(-1125899906842624<=(z0V p now).ml/\(z0V p now).ml<=2305843009213693952)->(z0V p now).mn<=1099511627800->MI (endP p now).1 f' (s'+Tk (tk p.s.V (endP p now).1.s.V) 6) (Mk g' (tk p.s.V (endP p now).1.s.V) 6):=by
  intro f' s' g' hg hs hf ha hb hl hn
  have m0:MQ p.s.V f' s' g' (z0V p now):=by
   refine ⟨?_,?_,fun k _ hj=>⟨hj,rfl⟩,hl⟩
   ·show s'+Tk (tk p.s.V p.s.V) 6<=_
    rw[Tk_zero];omega
   ·show s'+Tk (tk p.s.V p.s.V) 6 - Mk g' (tk p.s.V p.s.V) 6<_
    rw[Tk_zero,Mk_zero g' hg];omega
  have m:=mq_steps hg p.q ⟨z0V p now,fun _=>false,[]⟩ (fun a ha=>(z9A hok.1 a ha).2) (z8V hok.1 now) m0;have e:(p.q.foldl z1R ⟨z0V p now,fun _=>false,[]⟩).p=(goQ (z0V p now)).p:=rfl;rw[e]at m;have hp:=Tk_pos p.s.V (goQ (z0V p now)).p.s.V;have hm:=Mk_g g' (tk p.s.V (goQ (z0V p now)).p.s.V) 6;have hn':=(Mk_le g' (tk_pos p.s.V (goQ (z0V p now)).p.s.V) hg 6).1;have q1:=m.a;have q2:=m.b;rw[e1];exact ⟨by rw[e2];exact q1,q2,by omega,by omega,hf,by rw[e2];exact m.l,by rw[e3];exact hn⟩
 by_cases hq:now<p.mn
 ·have e4:(endP p now).1.mn=p.mn:=by rw[e3];unfold z0V;dsimp only;rw[if_pos hq]
  have e5:(z0V p now).ml=p.ml:=by unfold z0V;dsimp only;rw[if_pos hq]
  have e6:(z0V p now).mn=p.mn:=by rw[← e3,e4]
  unfold f0M s0M;rw[if_pos e4,if_pos e4,if_pos e4];exact key f s g h.g0 h.gs h.f0 (by rw[e5];exact h.a) h.b (by rw[e5];exact h.l) (by rw[e6];exact h.n)
 ·have hw:wrap64 (now+10)=now+10:=z0g (by omega) (by omega)
  have e6:(z0V p now).mn=now+10:=by unfold z0V;dsimp only;rw[if_neg hq,hw]
  have e4:¬ (endP p now).1.mn=p.mn:=by rw[e3,e6];omega
  have e5:(z0V p now).ml=Mt.alw (Df.q5j p.set):=by unfold z0V;dsimp only;rw[if_neg hq]
  unfold f0M s0M;rw[if_neg e4,if_neg e4,if_neg e4];have a1:=Mt.j8s (Df.q5j p.set);have a2:=alw_top p.set;exact key _ 0 0 (Int.le_refl _) (Int.le_refl _) ⟨a1,a2⟩ (by rw[e5];omega) (by omega) (by rw[e5];omega) (by rw[e6];omega)
def MS(x y:Wo):Prop:=y.p.ml=x.p.ml/\y.p.mn=x.p.mn
theorem ms_put(x:Wo)(i:Nat)(b:Bool)(l:Ln.Line):MS x (z1T x i b l):=by
 unfold z1T
 split <;> exact ⟨rfl,rfl⟩
theorem ms_hearW(x:Wo)(i:Nat)(b:Bool)(s:ByteArray):MS x (z1V x i b s).1:=by
 unfold z1V
 split
 ·unfold MS;dsimp only;rw[(q5p _ _ _).1];exact ⟨rfl,rfl⟩
 ·exact ⟨rfl,rfl⟩
theorem ms_rem(p:Pr)(c:Int):(z0A p c).ml=p.ml/\(z0A p c).mn=p.mn:=by
 unfold z0A
 split <;> exact ⟨rfl,rfl⟩
theorem ms_with(x:Wo)(i:Nat)(d:Dd):MS x (z5v x i d).1:=by
 unfold z5v
 split
 ·dsimp only;unfold z5u
  split <;> exact ⟨rfl,rfl⟩
 ·split
  ·dsimp only;unfold z5b
   split <;> exact ⟨rfl,rfl⟩
  ·split
   ·unfold q0O
    split
    ·have h1:=ms_hearW x i d.b (z0P x i d.b d.f)
     split
     ·have h2:=ms_put (z1V x i d.b (z0P x i d.b d.f)).1 i d.b (Ln.z5l (z1r x i d.b) ((z1r x i d.b).g+1) (z0P x i d.b d.f) (q3Q x i d.b) x.ck);exact ⟨h2.1.trans h1.1,h2.2.trans h1.2⟩
     ·exact h1
    ·exact ⟨rfl,rfl⟩
   ·split
    ·dsimp only;unfold z9D
     split
     ·have h1:=ms_put x i d.b (Ln.z6X (z1r x i d.b) d.n (q8o x i d.b) (j7u x i d.b));have h2:=ms_rem (z1T x i d.b (Ln.z6X (z1r x i d.b) d.n (q8o x i d.b) (j7u x i d.b))).p i;exact ⟨h2.1.trans h1.1,h2.2.trans h1.2⟩
     ·exact ⟨rfl,rfl⟩
    ·dsimp only;unfold q2G
     split <;> exact ⟨rfl,rfl⟩
theorem ms_at(x:Wo)(d:Dd):MS x (atP x d).1:=by
 unfold atP
 split
 ·unfold MS;dsimp only;rw[q3U];exact ⟨rfl,rfl⟩
 ·split
  ·unfold MS z1t;dsimp only
   repeat' split
   all_goals exact ⟨rfl,rfl⟩
  ·split
   ·exact ⟨rfl,rfl⟩
   ·unfold MS;dsimp only;rw[q9F];exact ⟨rfl,rfl⟩
theorem ms_perf(x:Wo)(d:Dd)(h6:d.k≠6):MS x (z2Z x d).1:=by
 unfold z2Z
 split
 ·exact ms_at _ _
 ·split
  ·unfold z6s
   split <;> exact ⟨rfl,rfl⟩
  ·split
   ·unfold z3w
    split
    ·split
     ·unfold MS z0T;dsimp only
      repeat' split
      all_goals exact ⟨rfl,rfl⟩
     ·exact ⟨rfl,rfl⟩
    ·exact ⟨rfl,rfl⟩
   ·split
    ·split
     ·exact ms_with _ _ _
     ·exact ⟨rfl,rfl⟩
    ·exact ⟨rfl,rfl⟩
theorem MI.same{p q:Pr}{f s g:Int}(h:MI p f s g)(e1:q.ml=p.ml)(e2:q.mn=p.mn):MI q f s g:=⟨by rw[e1];exact h.a,h.b,h.g0,h.gs,h.f0,by rw[e1];exact h.l,by rw[e2];exact h.n⟩
theorem mi_do{x:Wo}{d:Dd}{f s g:Int}(hx:Inv x)(h:MI x.p f s g):(d.k=6/\(doW x d).2.1=0->MI (doW x d).1.p (f0M x.p (doW x d).1.p f) (s0M x.p (doW x d).1.p s+Tk (tk x.p.s.V (doW x d).1.p.s.V) 6) (Mk (s0M x.p (doW x d).1.p g) (tk x.p.s.V (doW x d).1.p.s.V) 6))/\(¬ (d.k=6/\(doW x d).2.1=0)->MI (doW x d).1.p f s g):=by
 have hok:z0B x.p=true/\isT x.ck=true/\x.p.t<=x.ck:=⟨(z8B _).2 hx.gp,(j3p _).2 ⟨hx.k0,by have:=hx.k1;omega⟩,hx.pt⟩
 unfold doW
 by_cases hn:600<=x.dn
 ·rw[if_pos hn];exact ⟨fun q=>absurd q.2 (by simp),fun _=>h⟩
 rw[if_neg hn]
 ·dsimp only
  by_cases h6:d.k=6
  ·have e:z2Z (z1D x) d=z5D (z1D x):=by
    unfold z2Z;rw[if_neg (by omega),if_neg (by omega),if_pos h6]
   have e2:(endP (z1D x).p (z1D x).ck).2.2=0:=by
    unfold endP;rw[if_pos (by exact hok)]
   have e3:z5D (z1D x)=({ z1D x with p:=(endP x.p x.ck).1,hp:=z4R (endP x.p x.ck).1 x.c },((endP x.p x.ck).2.1.length:Int),0):=by
    unfold z5D;rw[if_pos e2];rfl
   rw[e,e3];exact ⟨fun _=>mi_end hok h,fun q=>absurd ⟨h6,rfl⟩ q⟩
  ·have:=ms_perf (z1D x) d h6;exact ⟨fun q=>absurd q.1 h6,fun _=>h.same this.1 this.2⟩
theorem mi_new:MI z6t.p 1 0 0:=⟨by decide,by decide,by decide,by decide,by decide,by decide,by decide⟩
def msW(l:List Dd):Nat->Int×Int×Int
 | 0=>(1,0,0)
 | k+1=>if (l.getD k dA).k=6/\(doW (stW l k) (l.getD k dA)).2.1=0 then (f0M (stW l k).p (stW l (k+1)).p (msW l k).1,s0M (stW l k).p (stW l (k+1)).p (msW l k).2.1+Tk (tk (stW l k).p.s.V (stW l (k+1)).p.s.V) 6,Mk (s0M (stW l k).p (stW l (k+1)).p (msW l k).2.2) (tk (stW l k).p.s.V (stW l (k+1)).p.s.V) 6) else msW l k
theorem ms_succ{l:List Dd}{k:Nat}{d:Dd}(hx:l[k]?=some d):msW l (k+1)=if d.k=6/\(doW (stW l k) d).2.1=0 then (f0M (stW l k).p (stW l (k+1)).p (msW l k).1,s0M (stW l k).p (stW l (k+1)).p (msW l k).2.1+Tk (tk (stW l k).p.s.V (stW l (k+1)).p.s.V) 6,Mk (s0M (stW l k).p (stW l (k+1)).p (msW l k).2.2) (tk (stW l k).p.s.V (stW l (k+1)).p.s.V) 6) else msW l k:=by
 have e:l.getD k dA=d:=by rw[List.getD_eq_getElem?_getD,hx];rfl
 show (if (l.getD k dA).k=6/\_ then _ else _)=_
 rw[e]
theorem mi_st(l:List Dd):∀ k,k<=l.length->MI (stW l k).p (msW l k).1 (msW l k).2.1 (msW l k).2.2
 | 0,_=>mi_new
 | k+1,hk=>by
  have hx:=List.getElem?_eq_getElem (by omega:k<l.length)
  have h:=mi_do (d:=l[k]) (j6u l k) (mi_st l k (by omega))
  rw[← z9c hx]at h;rw[ms_succ hx]
  split
  ·exact h.1 ‹_›
  ·exact h.2 ‹_›
end Wd
namespace Wd
open Go.RowKit Pv Kc
structure AltP(P:Nat->Prop)(w w':World):Prop where
 os:w'.os=w.os
 tape:w'.tape=w.tape
 output:w'.output=w.output
 size:w.heap.size<=w'.heap.size
 block:∀ k,k<w.heap.size->¬ P k->w'.heap[k]?=w.heap[k]?
theorem AltP.trans{P:Nat->Prop}{w w1 w2:World}(h:AltP P w w1)(k:AltP P w1 w2):AltP P w w2:=⟨k.os.trans h.os,k.tape.trans h.tape,k.output.trans h.output,Nat.le_trans h.size k.size,fun i hi h1=>(k.block i (Nat.lt_of_lt_of_le hi h.size) h1).trans (h.block i hi h1)⟩
theorem AltP.of{P:Nat->Prop}{w w':World}(h:Below w.heap.size w w'):AltP P w w':=⟨h.os,h.tape,h.output,h.size,fun k hk _=>h.block k hk⟩
theorem AltP.alt{P:Nat->Prop}{a:Nat}{w w':World}(h:Alt a w w')(ha:P a):AltP P w w':=⟨h.os,h.tape,h.output,h.size,fun k hk h1=>h.block k hk fun e=>h1 (e ▸ ha)⟩
def M4(bw:Nat)(b:Nat):Prop:=b=bw∨b=bw+1∨b=bw+2∨b=bw+3
structure MC(g bw:Nat)(p:Pr)(v:PrV)(f s m:Int)(w:World):Prop where
 cp:CAt 57 w bw (prC p v)
 ip:PIn (fun c=>g<c) w p v
 cf:CAt 3 w (bw+1) #[.int .i64 f]
 cs:CAt 3 w (bw+2) #[.int .i64 s]
 cg:CAt 3 w (bw+3) #[.int .i64 m]
theorem MC.over{g bw:Nat}{p:Pr}{v:PrV}{f s m:Int}{w w':World}(h:MC g bw p v f s m w)(hb:Below w.heap.size w w'):MC g bw p v f s m w':=⟨h.cp.over hb,h.ip.over hb,h.cf.over hb,h.cs.over hb,h.cg.over hb⟩
theorem MC.alt{g bw:Nat}{p:Pr}{v:PrV}{f s m:Int}{w w':World}(h:MC g bw p v f s m w)(ha:Alt g w w')(hg:bw+3<g):MC g bw p v f s m w':=⟨ha.cat (by omega) h.cp,h.ip.keep fun b hb hl=>ha.block b hl (by omega),ha.cat (by omega) h.cf,ha.cat (by omega) h.cs,ha.cat (by omega) h.cg⟩
theorem MC.put{g bw:Nat}{p q:Pr}{v u:PrV}{f s m:Int}{w:World}(h:MC g bw p v f s m w)(hg:bw+3<g)(hq:PIn (fun c=>g<c) w q u):(z6p (.pointer (some ⟨bw,0,none⟩)) (.agg (prC q u))).run prog w=.ok () (w.setCells bw 0 (prC q u).toList)/\MC g bw q u f s m (w.setCells bw 0 (prC q u).toList)/\Alt bw w (w.setCells bw 0 (prC q u).toList):=
 have a:Alt bw w (w.setCells bw 0 (prC q u).toList):=(Alt.refl bw w).sets _ _
 ⟨z0k h.cp (z0a _ _) (z0a _ _) (z1c hq),⟨h.cp.z0G rfl,hq.keep fun b hb hl=>a.block b hl (by omega),a.cat (by omega) h.cf,a.cat (by omega) h.cs,a.cat (by omega) h.cg⟩,a⟩
theorem vd_cells{w:World}{b:Nat}{p:Pr}{v:PrV}(h:CAt 57 w b (prC p v)){k:Nat}(hk:k<6):w.cell? ⟨b,9+k * 5,none⟩=some (.int .i64 (p.s.V k).tok)/\w.cell? ⟨b,9+k * 5+1,none⟩=some (.int .i64 (p.s.V k).sh)/\w.cell? ⟨b,9+k * 5+2,none⟩=some (.int .i64 (p.s.V k).lost)/\w.cell? ⟨b,9+k * 5+3,none⟩=some (.bool (p.s.V k).jail)/\w.cell? ⟨b,9+k * 5+4,none⟩=some (.bool (p.s.V k).dead):=by
 rcases (show k=0∨k=1∨k=2∨k=3∨k=4∨k=5 by omega) with rfl | rfl | rfl | rfl | rfl | rfl <;> exact ⟨h.cell _,h.cell _,h.cell _,h.cell _,h.cell _⟩
def TM(B g bw gp:Nat)(w:World)(x:Wo)(vp:PrV)(p:Pr)(v:PrV)(f s m:Int)(wl:World):Prop:=PLk w.heap.size wl gp x.p vp/\MC g bw p v f s m wl/\StW B g x wl/\AltP (M4 bw) w wl
theorem TM.over{B g bw gp:Nat}{w:World}{x:Wo}{vp:PrV}{p:Pr}{v:PrV}{f s m:Int}{wl w':World}(h:TM B g bw gp w x vp p v f s m wl)(hb:Below wl.heap.size wl w'):TM B g bw gp w x vp p v f s m w':=⟨h.1.over hb,h.2.1.over hb,h.2.2.1.over hb,h.2.2.2.trans (AltP.of hb)⟩
theorem TM.num{B g bw gp:Nat}{w:World}{x:Wo}{vp:PrV}{p:Pr}{v:PrV}{f s m:Int}{wl:World}(h:TM B g bw gp w x vp p v f s m wl)(hB:bw+3<B)(hw:bw+3<w.heap.size)(n:Int) :
  TM B g bw gp w x vp p v n s m (wl.setCell ⟨bw+1,0,none⟩ (.int .i64 n))/\TM B g bw gp w x vp p v f n m (wl.setCell ⟨bw+2,0,none⟩ (.int .i64 n))/\TM B g bw gp w x vp p v f s n (wl.setCell ⟨bw+3,0,none⟩ (.int .i64 n)):=by
 have hg:=h.2.2.1.le;have a:∀ c,Alt c wl (wl.setCell ⟨c,0,none⟩ (.int .i64 n)):=fun c=>(Alt.refl c wl).set 0 _
 have k1:∀ c,M4 bw c->PLk w.heap.size (wl.setCell ⟨c,0,none⟩ (.int .i64 n)) gp x.p vp/\StW B g x (wl.setCell ⟨c,0,none⟩ (.int .i64 n))/\AltP (M4 bw) w (wl.setCell ⟨c,0,none⟩ (.int .i64 n))/\PIn (fun c=>g<c) (wl.setCell ⟨c,0,none⟩ (.int .i64 n)) p v:=fun c hc=>by
  have hc':c<=bw+3:=by unfold M4 at hc;omega
  exact ⟨h.1.alt (a c) (by omega),h.2.2.1.keep fun b hb hl=>(a c).block b hl (by omega),h.2.2.2.trans (AltP.alt (a c) hc),h.2.1.ip.keep fun b hb hl=>(a c).block b hl (by omega)⟩
 obtain ⟨p1,p2,p3,p4⟩:=k1 (bw+1) (by unfold M4;omega)
 obtain ⟨q1,q2,q3,q4⟩:=k1 (bw+2) (by unfold M4;omega)
 obtain ⟨r1,r2,r3,r4⟩:=k1 (bw+3) (by unfold M4;omega)
 refine ⟨⟨p1,⟨(a _).cat (by omega) h.2.1.cp,p4,h.2.1.cf.set 0 _,(a _).cat (by omega) h.2.1.cs,(a _).cat (by omega) h.2.1.cg⟩,p2,p3⟩,⟨q1,⟨(a _).cat (by omega) h.2.1.cp,q4,(a _).cat (by omega) h.2.1.cf,h.2.1.cs.set 0 _,(a _).cat (by omega) h.2.1.cg⟩,q2,q3⟩,⟨r1,⟨(a _).cat (by omega) h.2.1.cp,r4,(a _).cat (by omega) h.2.1.cf,(a _).cat (by omega) h.2.1.cs,h.2.1.cg.set 0 _⟩,r2,r3⟩⟩
theorem all_ge:∀ (l:List (Int×Int)) (a:Int),-9223372036854775808<=a->-9223372036854775808<=l.foldl (fun s x=>(s+x.2+9223372036854775808) % 18446744073709551616 - 9223372036854775808) a
 | [],_,h=>h
 | x :: l,a,_=>all_ge l _ (by have:=Int.emod_nonneg (a+x.2+9223372036854775808) (show (18446744073709551616:Int)≠0 by decide);dsimp only;omega)
theorem Tk_mono{t:Nat->Int}(h:∀ k,0<=t k):∀ n m,n<=m->Tk t n<=Tk t m
 | _,0,e=>by obtain rfl:_=0:=Nat.le_zero.1 e;exact Int.le_refl _
 | n,m+1,e=>by
  by_cases q:n=m+1
  ·rw[q];exact Int.le_refl _
  ·have:=Tk_mono h n m (by omega)
   have:=h m
   show _<=Tk t m+t m
   omega
attribute [local go_sem ↓] z0J z0y z9X
set_option maxRecDepth 100000 in
theorem tmeter1_any(B g bw:Nat)(x0 x:Wo)(v0:PrV)(d:Dd)(rc rn f s m f' s' m':Int)(w:World)(h:StW B g x w)(hB:bw+3<B)(hgw:g<w.heap.size)(hc:MC g bw x0.p v0 f s m w)(hi0:z0h x0.p.s=true)
  (hy:d.k=6/\rc=0->f'=f0M x0.p x.p f/\s'=s0M x0.p x.p s+Tk (tk x0.p.s.V x.p.s.V) 6/\m'=Mk (s0M x0.p x.p m) (tk x0.p.s.V x.p.s.V) 6/\0<=s0M x0.p x.p s/\s'<4611686018427387904/\(0<=m'/\m'<=s')/\s' - m'<f'/\0<=s0M x0.p x.p m) (hn:¬ (d.k=6/\rc=0)->f'=f/\s'=s/\m'=m) :
  Calls prog 20 #[.pointer (some ⟨g,0,none⟩),.agg (ddC d),.agg #[.int .i64 rc,.int .i64 rn],.pointer (some ⟨bw,0,none⟩),.pointer (some ⟨bw+1,0,none⟩),.pointer (some ⟨bw+2,0,none⟩),.pointer (some ⟨bw+3,0,none⟩)] w fun e w'=>e=.returned (.bool true)/\(∃ v',MC g bw x.p v' f' s' m' w')/\StW B g x w'/\AltP (M4 bw) w w':=by
 have HP:=hide (fun (wx:World) (hb:Below w.heap.size w wx)=>q0d B g x wx (h.over hb));have HST:=hide h;have HMC:=hide hc;have hBg:=h.le;have HY:=hide hy;have HN:=hide hn;have HB0:Hid (Below w.heap.size w ((w.alloc (.cells (ddC d) 29)).alloc (.cells #[.int .i64 rc,.int .i64 rn] 32))/\CAt 29 ((w.alloc (.cells (ddC d) 29)).alloc (.cells #[.int .i64 rc,.int .i64 rn] 32)) w.heap.size (ddC d)/\CAt 32 ((w.alloc (.cells (ddC d) 29)).alloc (.cells #[.int .i64 rc,.int .i64 rn] 32)) (w.heap.size+1) #[.int .i64 rc,.int .i64 rn]):=⟨(znw w _).alloc (by simp) _,(CAt.new _ w _).alloc _,CAt.new2 _ w _ _⟩
 clear h hc hy hn
 go_enter func20,ntmps20
 go_upto_region 1 with fail
 generalize (w.alloc (.cells (ddC d) 29)).alloc (.cells #[.int .i64 rc,.int .i64 rn] 32)=w0 at *
 go_upto_region 2 with (go_at_call 11;refine (HP.out _ HB0.out.1).mono ?_;rintro e w1 ⟨vp,rfl,I1,b1⟩;have s1:=z7Y I1;have bb1:=b1.trans ((z3G w1 x.p vp).mono b1.size);have bw1:=zbt HB0.out.1 bb1;have HL1:Hid (TM B g bw w1.heap.size w x vp x0.p v0 f s m (j2C w1 x.p vp)/\CAt 29 (j2C w1 x.p vp) w.heap.size (ddC d)/\CAt 32 (j2C w1 x.p vp) (w.heap.size+1) #[.int .i64 rc,.int .i64 rn]):=⟨⟨PLk.mk (q7R w1 x.p vp) I1 (z3G w1 x.p vp) (by have:=HB0.out.1.size;omega) (by have:=HB0.out.1.size;have:=b1.size;omega),HMC.out.over bw1,HST.out.over bw1,AltP.of bw1⟩,HB0.out.2.1.over bb1,HB0.out.2.2.over bb1⟩;clear I1 b1 bb1 bw1)
 clear s1 HP HB0 HMC HST;generalize j2C w1 x.p vp=w2 at *;generalize w1.heap.size=gp at *;have d0:w2.cell? ⟨w.heap.size,0,none⟩=some (.int .i64 d.k):=HL1.out.2.1.cell 0;have r0:w2.cell? ⟨w.heap.size+1,0,none⟩=some (.int .i64 rc):=HL1.out.2.2.cell 0;have zd:=HL1.out.2.1.lt;have zr:=HL1.out.2.2.lt;have HT2:=hide HL1.out.1;clear HL1
 by_cases hyy:d.k=6/\rc=0
 case neg =>
  obtain ⟨rfl,rfl,rfl⟩:=HN.out hyy;have lP:=HT2.out.1.load;have zp:=HT2.out.1.lt;obtain ⟨sP,M3,A3⟩:=HT2.out.2.1.put (q:=x.p) (u:=vp) (by omega) (HT2.out.1.2.1.mono fun c _ hc=>by omega)
  have zb:=HT2.out.2.1.cp.lt;have HZ:=hide (show _/\_/\_ from ⟨M3,HT2.out.2.2.1.keep fun b hb hl=>A3.block b hl (by omega),HT2.out.2.2.2.trans (AltP.alt A3 (.inl rfl))⟩)
  clear M3 A3
  by_cases h6:d.k=6
  ·have hr:¬ rc=0:=fun e=>hyy ⟨h6,e⟩;rw[h6]at d0;go_wp2;go_ret;exact ⟨rfl,⟨vp,HZ.out.1⟩,HZ.out.2⟩
  ·go_wp2;go_ret;exact ⟨rfl,⟨vp,HZ.out.1⟩,HZ.out.2⟩
 obtain ⟨h6,hr⟩:=hyy;obtain ⟨e1,e2,e3,ks0,ks1,km0,kf,kg0⟩:=HY.out ⟨h6,hr⟩;rw[h6]at d0;rw[hr]at r0;have q1:w2.cell? ⟨gp,95,none⟩=some (.int .i64 x.p.mn):=HT2.out.1.1.cell 95;have q2:w2.cell? ⟨bw,95,none⟩=some (.int .i64 x0.p.mn):=HT2.out.2.1.cp.cell 95;have q3:w2.cell? ⟨bw,65,none⟩=some v0.set:=HT2.out.2.1.cp.cell 65;have zp:=HT2.out.1.lt;have zb:=HT2.out.2.1.cp.lt;have hww:bw+3<w.heap.size:=by omega
 rcases Decidable.em (x.p.mn=x0.p.mn) with hmn | hmn
 have HT7:Hid (TM B g bw gp w x vp x0.p v0 (f0M x0.p x.p f) (s0M x0.p x.p s) (s0M x0.p x.p m) w2):=by unfold f0M s0M;rw[if_pos hmn,if_pos hmn,if_pos hmn];exact HT2
 obtain ⟨-,-,l2,-⟩:=q8z HT7.out.1.1;clear HT2;rw[hmn]at q1
 go_upto_region 8 with fail
 clear l2 q1 q2 q3 d0 r0 zd zr hmn zp zb;generalize w2=wz at *
 rotate_left
 have HSA:=hide (j7c HT2.out.2.1.ip.set);have hI:Mt.I64 (Df.q5j x0.p.set):=⟨all_ge _ _ (by decide),by have h:Df.q5j x0.p.set<9223372036854775808:=all_lt _ _ (by decide);omega⟩
 go_upto_region 7 with (first
  | (go_at_call 21;refine HSA.out.mono ?_;rintro e w3 ⟨rfl,b3⟩;have HT3:=hide (HT2.out.over b3);clear b3)
  | (go_at_call 19;refine (Mt.j5o _ hI w3).mono ?_;rintro e w4 ⟨rfl,rfl⟩;have a1:w3.cell? ⟨bw+1,0,none⟩=some (.int .i64 f):=HT3.out.2.1.cf.cell 0;have a2:w3.cell? ⟨bw+2,0,none⟩=some (.int .i64 s):=HT3.out.2.1.cs.cell 0;have a3:w3.cell? ⟨bw+3,0,none⟩=some (.int .i64 m):=HT3.out.2.1.cg.cell 0;have z1:=HT3.out.2.1.cf.free 0;have z2:=HT3.out.2.1.cs.free 0;have z3:=HT3.out.2.1.cg.free 0))
 have HT7:Hid (TM B g bw gp w x vp x0.p v0 (f0M x0.p x.p f) (s0M x0.p x.p s) (s0M x0.p x.p m) (((w3.setCell ⟨bw+1,0,none⟩ (.int .i64 (Mt.alw (Df.q5j x0.p.set)))).setCell ⟨bw+2,0,none⟩ (.int .i64 0)).setCell ⟨bw+3,0,none⟩ (.int .i64 0))):=by
  unfold f0M s0M;rw[if_neg hmn,if_neg hmn,if_neg hmn];exact ((((HT3.out.num hB hww _).1.num hB hww 0).2.1).num hB hww 0).2.2
 clear a1 a2 a3 z1 z2 z3 HT3 HSA hI HT2 q1 q2 q3 d0 r0 zd zr hmn zp zb;generalize (((w3.setCell ⟨bw+1,0,none⟩ (.int .i64 (Mt.alw (Df.q5j x0.p.set)))).setCell ⟨bw+2,0,none⟩ (.int .i64 0)).setCell ⟨bw+3,0,none⟩ (.int .i64 0))=wz at *;obtain ⟨-,-,l2,-⟩:=q8z HT7.out.1.1;have zp:=HT7.out.1.lt
 go_upto_region 8 with fail
 clear l2 zp
 all_goals
  generalize f0M x0.p x.p f=f1 at *;generalize s0M x0.p x.p s=s1 at *;generalize s0M x0.p x.p m=m1 at *
  go_loopw [41] (fun i wl=>∃ (k:Nat),k<=6/\i=.int .i64 (k:Int)/\Hid (TM B g bw gp w x vp x0.p v0 f1 (s1+Tk (tk x0.p.s.V x.p.s.V) k) (Mk m1 (tk x0.p.s.V x.p.s.V) k) wl)) (fun i _=>6 - (intOf i).toNat)
  case atStart=>exact ⟨0,by omega,rfl,by show Hid (TM B g bw gp w x vp x0.p v0 f1 (s1+0) m1 wz);rw[Int.add_zero];exact HT7⟩
  case round =>
   obtain ⟨k,hk,rfl,HRR⟩:=hrel;clear HT7
   by_cases hlt:k<6
   ·have hI1:(k:Int)<6:=by omega
    have hk0:(0:Int)<=(k:Int):=by omega
    have hx1:=fun wx=>ixV wx x.p.s.V k hlt
    go_upto_region 10 with fail
    have b4:Below wr.heap.size wr (wr.alloc (.cells #[.int .i64 (x.p.s.V k).tok,.int .i64 (x.p.s.V k).sh,.int .i64 (x.p.s.V k).lost,.bool (x.p.s.V k).jail,.bool (x.p.s.V k).dead] 37)):=znw wr _;have R4:CAt 37 (wr.alloc (.cells #[.int .i64 (x.p.s.V k).tok,.int .i64 (x.p.s.V k).sh,.int .i64 (x.p.s.V k).lost,.bool (x.p.s.V k).jail,.bool (x.p.s.V k).dead] 37)) wr.heap.size #[.int .i64 (x.p.s.V k).tok,.int .i64 (x.p.s.V k).sh,.int .i64 (x.p.s.V k).lost,.bool (x.p.s.V k).jail,.bool (x.p.s.V k).dead]:=CAt.new _ wr _;have H4:=hide (show _/\_ from ⟨HRR.out.over b4,R4⟩);clear b4 R4 HRR hx1;generalize wr.alloc (.cells #[.int .i64 (x.p.s.V k).tok,.int .i64 (x.p.s.V k).sh,.int .i64 (x.p.s.V k).lost,.bool (x.p.s.V k).jail,.bool (x.p.s.V k).dead] 37)=w4 at *;generalize wr.heap.size=gx at *;obtain ⟨u0,u1,u2,u3,u4⟩:=vd_cells H4.out.1.2.1.cp hlt;have zb:=H4.out.1.2.1.cp.lt
    go_upto_region 11 with fail
    clear u0 u1 u2 u3 u4 zb;have b5:Below w4.heap.size w4 (w4.alloc (.cells #[.int .i64 (x0.p.s.V k).tok,.int .i64 (x0.p.s.V k).sh,.int .i64 (x0.p.s.V k).lost,.bool (x0.p.s.V k).jail,.bool (x0.p.s.V k).dead] 37)):=znw w4 _;have R5:CAt 37 (w4.alloc (.cells #[.int .i64 (x0.p.s.V k).tok,.int .i64 (x0.p.s.V k).sh,.int .i64 (x0.p.s.V k).lost,.bool (x0.p.s.V k).jail,.bool (x0.p.s.V k).dead] 37)) w4.heap.size #[.int .i64 (x0.p.s.V k).tok,.int .i64 (x0.p.s.V k).sh,.int .i64 (x0.p.s.V k).lost,.bool (x0.p.s.V k).jail,.bool (x0.p.s.V k).dead]:=CAt.new _ w4 _;have H5:=hide (show _/\_/\_ from ⟨H4.out.1.over b5,H4.out.2.over b5,R5⟩);clear b5 R5 H4;generalize w4.alloc (.cells #[.int .i64 (x0.p.s.V k).tok,.int .i64 (x0.p.s.V k).sh,.int .i64 (x0.p.s.V k).lost,.bool (x0.p.s.V k).jail,.bool (x0.p.s.V k).dead] 37)=w5 at *;generalize w4.heap.size=gy at *;have x3:w5.cell? ⟨gx,3,none⟩=some (.bool (x.p.s.V k).jail):=H5.out.2.1.cell 3;have x4:w5.cell? ⟨gx,4,none⟩=some (.bool (x.p.s.V k).dead):=H5.out.2.1.cell 4;have y3:w5.cell? ⟨gy,3,none⟩=some (.bool (x0.p.s.V k).jail):=H5.out.2.2.cell 3;have y0:w5.cell? ⟨gy,0,none⟩=some (.int .i64 (x0.p.s.V k).tok):=H5.out.2.2.cell 0;have zx:=H5.out.2.1.lt;have zy:=H5.out.2.2.lt
    by_cases hcc:(x.p.s.V k).jail=true/\(x.p.s.V k).dead=false/\(x0.p.s.V k).jail=false
    ·have et:tk x0.p.s.V x.p.s.V k=j3I (x0.p.s.V k):=by unfold tk;rw[if_pos hcc]
     rw[hcc.1]at x3;rw[hcc.2.1]at x4;rw[hcc.2.2]at y3;have htk:=j8K hi0 hlt
     go_upto_region 13 with fail
     clear x3 x4 y3 y0 zx zy;have hpn:(if 1<(x0.p.s.V k).tok / 100 then (x0.p.s.V k).tok / 100 else 1)=tk x0.p.s.V x.p.s.V k:=by rw[et];unfold j3I;split <;> split <;> omega
     have hmo:Tk (tk x0.p.s.V x.p.s.V) (k+1)<=Tk (tk x0.p.s.V x.p.s.V) 6:=Tk_mono (tk_pos _ _) _ _ (by omega)
     have hmz:0<=Tk (tk x0.p.s.V x.p.s.V) k:=Tk_mono (tk_pos _ _) 0 k (by omega)
     have htp:=tk_pos x0.p.s.V x.p.s.V k;have hT1:s1+Tk (tk x0.p.s.V x.p.s.V) k+tk x0.p.s.V x.p.s.V k=s1+Tk (tk x0.p.s.V x.p.s.V) (k+1):=Int.add_assoc _ _ _;have hM1:(if Mk m1 (tk x0.p.s.V x.p.s.V) k<tk x0.p.s.V x.p.s.V k then tk x0.p.s.V x.p.s.V k else Mk m1 (tk x0.p.s.V x.p.s.V) k)=Mk m1 (tk x0.p.s.V x.p.s.V) (k+1):=rfl;have HZ:=hide ((H5.out.1.num hB hww (s1+Tk (tk x0.p.s.V x.p.s.V) (k+1))).2.1.num hB hww (Mk m1 (tk x0.p.s.V x.p.s.V) (k+1))).2.2;have hsb:s1+Tk (tk x0.p.s.V x.p.s.V) (k+1)<4611686018427387904:=by rw[← hT1];rw[e2]at ks1;have:Tk (tk x0.p.s.V x.p.s.V) (k+1)=Tk (tk x0.p.s.V x.p.s.V) k+tk x0.p.s.V x.p.s.V k:=rfl;omega
     have hsa:0<=s1+Tk (tk x0.p.s.V x.p.s.V) (k+1):=by rw[← hT1];omega
     rw[hpn];have a2:w5.cell? ⟨bw+2,0,none⟩=some (.int .i64 (s1+Tk (tk x0.p.s.V x.p.s.V) k)):=H5.out.1.2.1.cs.cell 0;have a3:w5.cell? ⟨bw+3,0,none⟩=some (.int .i64 (Mk m1 (tk x0.p.s.V x.p.s.V) k)):=H5.out.1.2.1.cg.cell 0;have z2:=H5.out.1.2.1.cs.free 0;have z3:=H5.out.1.2.1.cg.free 0;have y2:=H5.out.1.2.1.cs.lt;have y3:=H5.out.1.2.1.cg.lt;have hw:IntKind.i64.wrap (s1+Tk (tk x0.p.s.V x.p.s.V) k+tk x0.p.s.V x.p.s.V k)=s1+Tk (tk x0.p.s.V x.p.s.V) k+tk x0.p.s.V x.p.s.V k:=z6V (by rw[hT1];omega) (by rw[hT1];omega)
     clear hpn hmo hmz htp H5 et htk;obtain ⟨M2,hM2⟩:∃ y,y=Mk m1 (tk x0.p.s.V x.p.s.V) (k+1):=⟨_,rfl⟩;obtain ⟨S2,hS2⟩:∃ y,y=s1+Tk (tk x0.p.s.V x.p.s.V) (k+1):=⟨_,rfl⟩;have HS2:=hide hS2;have HM2:=hide hM2;rw[← hM2]at HZ hM1;rw[← hS2]at HZ hT1 hsb hsa;clear hM2 hS2;generalize Mk m1 (tk x0.p.s.V x.p.s.V) k=M1 at *;generalize s1+Tk (tk x0.p.s.V x.p.s.V) k=S1 at *;generalize tk x0.p.s.V x.p.s.V k=nk at *;rw[hT1]at hw;go_region;simp only[Exit.inBlock,Exit.then];apply_assumption;clear a2 a3 z2 z3 y2 y3;have HZ2:=hide (HZ.out.over (Below.refl _ _).drew);clear HZ;generalize ((w5.setCell ⟨bw+2,0,none⟩ (.int .i64 S2)).setCell ⟨bw+3,0,none⟩ (.int .i64 M2)).drew=w6 at *;go_wp2;exact ⟨⟨k+1,by omega,by go_num,hide (by rw[← HS2.out,← HM2.out];exact HZ2.out)⟩,by simp[intOf];omega⟩
    ·have et:tk x0.p.s.V x.p.s.V k=0:=by unfold tk;rw[if_neg hcc]
     have HZ:Hid (TM B g bw gp w x vp x0.p v0 f1 (s1+Tk (tk x0.p.s.V x.p.s.V) (k+1)) (Mk m1 (tk x0.p.s.V x.p.s.V) (k+1)) w5):=by
      have q1:s1+Tk (tk x0.p.s.V x.p.s.V) (k+1)=s1+Tk (tk x0.p.s.V x.p.s.V) k:=by show s1+(_+_)=_;rw[et];omega
      have q2:Mk m1 (tk x0.p.s.V x.p.s.V) (k+1)=Mk m1 (tk x0.p.s.V x.p.s.V) k:=by
       show j3W _ _=_
       have:=Mk_g m1 (tk x0.p.s.V x.p.s.V) k;rw[et];unfold j3W;rw[if_neg (by omega)]
      rw[q1,q2];exact H5.out.1
     clear H5 et;cases hj:(x.p.s.V k).jail
     ·rw[hj]at x3;go_wp2;exact ⟨⟨k+1,by omega,by go_num,HZ⟩,by simp[intOf];omega⟩
     ·rw[hj]at x3;cases hd:(x.p.s.V k).dead
      ·rw[hd]at x4;cases hu:(x0.p.s.V k).jail
       ·exact absurd ⟨hj,hd,hu⟩ hcc
       ·rw[hu]at y3;go_wp2;exact ⟨⟨k+1,by omega,by go_num,HZ⟩,by simp[intOf];omega⟩
      ·rw[hd]at x4;go_wp2;exact ⟨⟨k+1,by omega,by go_num,HZ⟩,by simp[intOf];omega⟩
   ·obtain rfl:k=6:=by omega
    rw[← e2,← e3,← e1]at HRR;clear e1 e2 e3;have hI1:¬ ((6:Int)<6):=by omega
    have lP:=HRR.out.1.load;have zp:=HRR.out.1.lt;obtain ⟨sP,M3,A3⟩:=HRR.out.2.1.put (q:=x.p) (u:=vp) (by omega) (HRR.out.1.2.1.mono fun c _ hc=>by omega)
    have zb:=HRR.out.2.1.cp.lt;have a1:(wr.setCells bw 0 (prC x.p vp).toList).cell? ⟨bw+1,0,none⟩=some (.int .i64 f'):=M3.cf.cell 0;have a2:(wr.setCells bw 0 (prC x.p vp).toList).cell? ⟨bw+2,0,none⟩=some (.int .i64 s'):=M3.cs.cell 0;have a3:(wr.setCells bw 0 (prC x.p vp).toList).cell? ⟨bw+3,0,none⟩=some (.int .i64 m'):=M3.cg.cell 0;have y1:=M3.cf.lt;have y2:=M3.cs.lt;have y3:=M3.cg.lt;have hw:IntKind.i64.wrap (s' - m')=s' - m':=z6V (by omega) (by omega)
    have HZ:=hide (show _/\_/\_ from ⟨M3,HRR.out.2.2.1.keep fun b hb hl=>A3.block b hl (by omega),HRR.out.2.2.2.trans (AltP.alt A3 (.inl rfl))⟩)
    clear M3 A3 HRR;generalize wr.setCells bw 0 (prC x.p vp).toList=w9 at *;go_wp2;go_ret;exact ⟨rfl,⟨vp,HZ.out.1⟩,HZ.out.2⟩
end Wd
namespace Wd
open Go.RowKit Pv Kc
theorem z7n.j9o{w w':World}{A:Option Addr}{b off bw:Nat}{l:List Dd}(h:z7n w A b off l)(ha:Alt bw w w')(hb:0<l.length->b≠bw):z7n w' A b off l:=by
 refine ⟨h.adr,h.len,fun i x hx j v hv=>?_⟩;have h0:0<l.length:=by have:=(List.getElem?_eq_some_iff.1 hx).1;omega
 rw[← h.cell i x hx j v hv];exact World.cell?_of_block (w:=w) (a:=⟨b,off+i * 7+j,none⟩) (ha.block b (h.lt h0) (hb h0))
attribute [local go_sem ↓] q0v
theorem q6B(A:Option Addr)(C b off:Nat)(cp:Array Value)(l:List Dd)(w:World)(I:Nat->Nat->Nat->World->Prop)(hD0:z7n w A b off l)
  (hD:∀ B g k wx,I B g k wx->z7n wx A b off l)
  (h0:∀ g w1 w2,Below w.heap.size w w1->StW w1.heap.size g z6t w2->Below w.heap.size w w2->I w1.heap.size g 0 w2)
  (hS:∀ B g k d wr w3 w4,k<120->I B g k wr->w.heap.size<=B->l[k]?=some d->StW B g (stW l k) wr->StW B g (stW l (k+1)) w4->Alt g wr w3->Below w3.heap.size w3 w4 ->
   Calls prog 20 (#[.pointer (some ⟨g,0,none⟩),.agg (ddC d),.agg #[.int .i64 (doW (stW l k) d).2.1,.int .i64 (doW (stW l k) d).2.2]] ++ cp) w4 fun e w'=>e=.returned (.bool true)/\StW B g (stW l (k+1)) w'/\I B g (k+1) w') :
  Calls prog 9 #[.slice A l.length C,.func (.func 20) #[] cp] w fun e w'=>∃ B g k,e=.returned (.tuple #[.pointer (some ⟨g,0,none⟩),.bool true])/\I B g k w':=by
 have HA:=hide (z8j w);have HBL:=hide (fun (h:0<l.length)=>hD0.lt h);have HD:=hide hD;have H0:=hide h0;have HSS:=hide hS;clear hD0 hD h0 hS
 go_enter func9,ntmps9
 go_upto_region 3 with (go_at_call 28;refine HA.out.mono ?_;rintro e w1 ⟨rfl,b1⟩;have HB1:=hide b1;clear b1)
 have HN:=hide (z5q w1)
 go_upto_region 4 with (go_at_call 22;refine HN.out.mono ?_;rintro e w2 ⟨g,rfl,h2,b2⟩;have HR0:Hid (StW w1.heap.size g (stW l 0) w2/\I w1.heap.size g 0 w2):=⟨h2,H0.out g w1 w2 HB1.out h2 (zbt HB1.out b2)⟩;have hg1:=HB1.out.size;have hg2:=h2.le;clear h2 b2)
 go_upto_region 5 with fail
 clear HN HA HB1 H0;generalize w1.heap.size=B at *
 go_loopw [7] (fun i wl=>∃ (k:Nat),k<=l.length/\k<=120/\i=.int .i64 (k:Int)/\Hid (StW B g (stW l k) wl/\I B g k wl)) (fun i _=>120 - (intOf i).toNat)
 case atStart=>exact ⟨0,Nat.zero_le _,by omega,rfl,HR0⟩
 case round =>
  obtain ⟨k,hk,hk2,rfl,HRR⟩:=hrel;clear HR0
  by_cases hlt:k<l.length/\k<120
  ·obtain ⟨h1,h2⟩:=hlt;have hI1:(k:Int)<(l.length:Int):=by omega
   have hI2:(k:Int)<120:=by omega
   have hx:l[k]?=some l[k]:=List.getElem?_eq_getElem h1;have hst:=z9c hx;generalize l[k]=d at hx hst;have HST:=hide hst;have HDO:=hide (q1p B g (stW l k) d wr HRR.out.1);have hDr:=HD.out B g k wr HRR.out.2;have ld:=hDr.load hx;have hA:A=some ⟨b,off,none⟩:=hDr.adr (by omega)
   have hbg:b≠g:=by have:=HBL.out (by omega);omega
   have HX:=hide hx;have HDR:=hide hDr;subst hA;clear hst hx hDr
   go_upto_region 8 with (go_at_call 24;refine HDO.out.mono ?_;rintro e w3 ⟨rfl,h3,a3⟩;have HS3:=hide (show _/\_ from ⟨h3,a3⟩);clear h3 a3)
   have hz3:=w3.heap.size;have b4:Below w3.heap.size w3 (w3.alloc (.cells #[.int .i64 (doW (stW l k) d).2.1,.int .i64 (doW (stW l k) d).2.2] 32)):=znw w3 _;have R4:CAt 32 (w3.alloc (.cells #[.int .i64 (doW (stW l k) d).2.1,.int .i64 (doW (stW l k) d).2.2] 32)) w3.heap.size #[.int .i64 (doW (stW l k) d).2.1,.int .i64 (doW (stW l k) d).2.2]:=CAt.new _ w3 _;have S4:=HS3.out.1.over b4;rw[← HST.out]at S4;have HS4:=hide (show _/\_/\_ from ⟨S4,b4,R4⟩);clear S4 R4 b4 ld;have HSX:=hide (HSS.out B g k d wr w3);generalize (doW (stW l k) d).2.1=rc at *;generalize (doW (stW l k) d).2.2=rn at *;generalize w3.alloc (.cells #[.int .i64 rc,.int .i64 rn] 32)=w4 at *;have hd4:Below w4.heap.size w4 w4.drew:=(Below.refl _ w4).drew;have bd:=zbt HS4.out.2.1 hd4;have HT:=hide (HSX.out w4.drew h2 HRR.out.2 hg1 HX.out HRR.out.1 (HS4.out.1.over hd4) HS3.out.2 bd);have ld4:=((HDR.out.j9o HS3.out.2 (fun _=>hbg)).over bd (Nat.le_refl _)).load HX.out;have r0:w4.cell? ⟨w3.heap.size,0,none⟩=some (.int .i64 rc):=HS4.out.2.2.cell 0;have r1:w4.cell? ⟨w3.heap.size,1,none⟩=some (.int .i64 rn):=HS4.out.2.2.cell 1;have hz4:=HS4.out.2.2.lt;clear hd4 bd hz3 HSX HDO
   go_region_with (go_at_call 20;refine HT.out.mono ?_;rintro e w5 ⟨rfl,S5,I5⟩;have HB5:=hide (show _/\_ from ⟨S5,I5⟩);clear S5 I5)
   all_goals (apply_assumption;go_wp2;exact ⟨⟨k+1,by omega,by omega,by go_num,HB5⟩,by simp[intOf];omega⟩)
  ·by_cases h1:k<l.length
   ·obtain rfl:k=120:=by omega
    have hI1:((120:Nat):Int)<(l.length:Int):=by omega
    have hI2:(120:Int)<(l.length:Int):=by omega
    go_wp2;go_ret2
    first | exact ⟨B,g,_,rfl,HRR.out.2⟩ | exact ⟨B,g,rfl,_,HRR.out.2⟩
   ·have hI1:¬ (k:Int)<(l.length:Int):=by omega
    go_wp2;go_ret2
    first | exact ⟨B,g,_,rfl,HRR.out.2⟩ | exact ⟨B,g,rfl,_,HRR.out.2⟩
end Wd
namespace Wd
open Go.RowKit Pv Kc
theorem AltP.also{P:Nat->Prop}{g:Nat}{w wl w':World}(h:AltP P w wl)(c:Alt g wl w')(hg:w.heap.size<=g):AltP P w w':=⟨c.os.trans h.os,c.tape.trans h.tape,c.output.trans h.output,Nat.le_trans h.size c.size,fun k hk h1=>(c.block k (Nat.lt_of_lt_of_le hk h.size) (by omega)).trans (h.block k hk h1)⟩
theorem AltP.below{P:Nat->Prop}{n:Nat}{w w':World}(h:AltP P w w')(hp:∀ k,k<n->¬ P k)(hn:n<=w.heap.size):Below n w w':=⟨h.os,h.tape,h.output,h.size,fun k hk=>h.block k (by omega) (hp k hk)⟩
theorem z7n.altP{P:Nat->Prop}{w w':World}{A:Option Addr}{b off:Nat}{l:List Dd}(h:z7n w A b off l)(ha:AltP P w w')(hb:0<l.length->¬ P b):z7n w' A b off l:=by
 refine ⟨h.adr,h.len,fun i x hx j v hv=>?_⟩;have h0:0<l.length:=by have:=(List.getElem?_eq_some_iff.1 hx).1;omega
 rw[← h.cell i x hx j v hv];exact World.cell?_of_block (w:=w) (a:=⟨b,off+i * 7+j,none⟩) (ha.block b (h.lt h0) (hb h0))
theorem play_meter(A:Option Addr)(C b off bw:Nat)(l:List Dd)(w:World)(hD:z7n w A b off l)(hb:0<l.length->b<bw)(hc:∀ g,MC g bw newP q1X 1 0 0 w)(hw:bw+3<w.heap.size) :
  Calls prog 9 #[.slice A l.length C,.func (.func 20) #[] #[.pointer (some ⟨bw,0,none⟩),.pointer (some ⟨bw+1,0,none⟩),.pointer (some ⟨bw+2,0,none⟩),.pointer (some ⟨bw+3,0,none⟩)]] w fun e w'=>∃ g,e=.returned (.tuple #[.pointer (some ⟨g,0,none⟩),.bool true])/\Below bw w w':=by
 refine (q6B A C b off #[.pointer (some ⟨bw,0,none⟩),.pointer (some ⟨bw+1,0,none⟩),.pointer (some ⟨bw+2,0,none⟩),.pointer (some ⟨bw+3,0,none⟩)] l w (fun _ g k wx=>k<=l.length/\(∃ v,MC g bw (stW l k).p v (msW l k).1 (msW l k).2.1 (msW l k).2.2 wx)/\AltP (M4 bw) w wx) hD ?_ ?_ ?_).mono ?_
 ·rintro B g k wx ⟨-,-,ha⟩;exact hD.altP ha fun h=>by have:=hb h;unfold M4;omega
 ·intro g w1 w2 b1 S b2;exact ⟨Nat.zero_le _,⟨q1X,(hc g).over b2⟩,AltP.of b2⟩
 ·rintro B g k d wr w3 w4 h120 ⟨hk,⟨v,hm⟩,ha⟩ hB hx hs hs4 a3 b4;have hk':k<l.length:=(List.getElem?_eq_some_iff.1 hx).1;have hg:=hs.le;have m4:=(hm.alt a3 (by omega)).over b4
  have M0:=mi_st l k hk;have M1:=mi_st l (k+1) hk';have es:=ms_succ hx;refine (tmeter1_any B g bw (stW l k) (stW l (k+1)) v d _ _ _ _ _ (msW l (k+1)).1 (msW l (k+1)).2.1 (msW l (k+1)).2.2 w4 hs4 (by omega) hs4.lt m4 hs.inv.gp.s (fun h=>?_) (fun h=>?_)).mono ?_
  ·rw[if_pos h]at es;have q1:=M1.a;have q2:=M1.f0;have q3:=M1.l;have q4:=M0.g0;have q5:=M0.gs;refine ⟨by rw[es],by rw[es],by rw[es],?_,by omega,⟨M1.g0,M1.gs⟩,M1.b,?_⟩
   ·unfold s0M;split <;> omega
   ·unfold s0M;split <;> omega
  ·rw[if_neg h]at es;rw[es];exact ⟨rfl,rfl,rfl⟩
  ·rintro e w' ⟨rfl,hv,hs5,a5⟩;exact ⟨rfl,hs5,hk',hv,((ha.also a3 (by omega)).trans (AltP.of b4)).trans a5⟩
 ·rintro e w' ⟨B,g,k,rfl,-,-,ha⟩;exact ⟨g,rfl,ha.below (fun k hk h=>by unfold M4 at h;omega) (by omega)⟩
theorem sets_sz{b:Nat}:∀ (vs:List Value) (o:Nat) (w:World),(w.setCells b o vs).heap.size=w.heap.size
 | [],_,_=>rfl
 | v :: vs,o,w=>by
  show ((w.setCell ⟨b,o,none⟩ v).setCells b (o+1) vs).heap.size=_
  rw[sets_sz vs]
  simp
theorem lay_size(w:World)(p:Pr)(v:PrV):(j2C w p v).heap.size=w.heap.size+1:=by
 unfold j2C;rw[sets_sz]
 simp
noncomputable def lay3(w:World):World:=((w.alloc (.cells #[.int .i64 1] 3)).alloc (.cells #[.int .i64 0] 3)).alloc (.cells #[.int .i64 0] 3)
theorem lay3_at{w:World}{bw:Nat}(hz:w.heap.size=bw+1)(hc:CAt 57 w bw (prC newP q1X)):(∀ g,MC g bw newP q1X 1 0 0 (lay3 w))/\bw+3<(lay3 w).heap.size/\Below w.heap.size w (lay3 w):=by
 have d1:CAt 3 (lay3 w) w.heap.size #[.int .i64 1]:=((CAt.new _ w _).alloc _).alloc _;have d2:CAt 3 (lay3 w) (w.heap.size+1) #[.int .i64 0]:=(CAt.new2 _ w _ _).alloc _
 have d3:CAt 3 (lay3 w) (w.heap.size+1+1) #[.int .i64 0]:=by
  have:=CAt.new2 3 (w.alloc (.cells #[.int .i64 1] 3)) (.cells #[.int .i64 0] 3) #[.int .i64 0]
  rwa [show (w.alloc (.cells #[.int .i64 1] 3)).heap.size=w.heap.size+1 by simp]at this
 have b3:Below w.heap.size w (lay3 w):=((znw w _).alloc (by simp) _).alloc (by simp;omega) _
 have l3:=d3.lt;rw[hz]at d1 d2 d3;exact ⟨fun g=>⟨hc.over b3,j3J _ _,d1,d2,d3⟩,by omega,b3⟩
attribute [local go_sem ↓] z0y
theorem ltmeter_any(A:Option Addr)(C b off:Nat)(l:List Dd)(w:World)(hD:z7n w A b off l):Calls prog 6 #[.slice A l.length C] w fun e w'=>e=.returned (.bool true)/\Below w.heap.size w w':=by
 have HN:=hide (j1e w);have HD:=hide hD;clear hD
 go_enter func6,ntmps6
 go_upto_region 2 with (go_at_call 18;refine HN.out.mono ?_;rintro e w1 ⟨rfl,b1⟩;have I1:=j3J (fun _=>True) w1;have s1:=z7Y I1;have HB1:=hide (show _/\_ from ⟨b1,b1.trans ((z3G w1 newP q1X).mono b1.size)⟩);have C1:=q7R w1 newP q1X;clear b1)
 have hz:=lay_size w1 newP q1X;obtain ⟨hM,hw3,b3⟩:=lay3_at hz C1;have bW:=zbt HB1.out.2 b3;have bs:=HB1.out.1.size;have HP:=hide (play_meter A C b off w1.heap.size l _ (HD.out.over bW (Nat.le_refl _)) (fun h=>Nat.lt_of_lt_of_le (HD.out.lt h) bs) hM hw3);have HBW:=hide (show _/\_ from ⟨bW,bs⟩);have HZ:=hide hz;clear hM hw3 b3 bW hz s1 C1 I1 HN HD;generalize j2C w1 newP q1X=w2 at *;have HAL:=hide (Mt.j5o 0 ⟨by decide,by decide⟩ w2)
 rw[show Mt.alw 0=1 from rfl]at HAL
 go_upto_region 3 with (go_at_call 19;refine HAL.out.mono ?_;rintro e w4 ⟨rfl,rfl⟩)
 change Code.wp prog _ _ _ (lay3 w2);clear HAL;generalize lay3 w2=w5 at *;rw[HZ.out]
 go_wp2_with (go_at_call 9;refine HP.out.mono ?_;rintro e w6 ⟨g,rfl,b6⟩;have HA:=hide b6;clear b6)
 go_ret;exact ⟨rfl,HBW.out.1.trans (HA.out.mono HBW.out.2)⟩
end Wd
end Go.Proofs.YtmopekkhmhhcaaaGreat
