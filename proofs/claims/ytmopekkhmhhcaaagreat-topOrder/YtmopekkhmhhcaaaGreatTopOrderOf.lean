/- Parts of the proof: WT0 WLY WO2 WLZ WSL WOP WTO WTQ WTP WPLo WLO. -/
import Derived.Test.YtmopekkhmhhcaaaGreatRows
import Derived.Test.YtmopekkhmhhcaaaGreatEK23
import Derived.ChangeOld
set_option maxRecDepth 100000
set_option maxHeartbeats 16000000
namespace Go.Proofs.YtmopekkhmhhcaaaGreat
open Go.Proofs.Tryz
namespace Wd
open Go.RowKit Pv Kc
theorem q2u:∀ (l:List Dd) (x:Wo),Inv x->Inv (l.foldl (fun x d=>(doW x d).1) x)
 | [],_,h=>h
 | d :: l,_,h=>q2u l _ (j2R h d)
theorem j4S(l:List Dd):Inv (j8q l):=q2u l _ q8U
theorem j6u(l:List Dd)(k:Nat):Inv (stW l k):=j4S _
noncomputable def j2C(w:World)(p:Pr)(v:PrV):World:=(w.alloc (.cells zeroCells57 57)).setCells w.heap.size 0 (prC p v).toList
theorem q7R(w:World)(p:Pr)(v:PrV):CAt 57 (j2C w p v) w.heap.size (prC p v):=(CAt.new 57 w zeroCells57).z0G (by rw[z0d];rfl)
theorem z3G(w:World)(p:Pr)(v:PrV):Below w.heap.size w (j2C w p v):=z0b (Nat.le_refl _) _ _ _ (znw w _)
theorem z7Y{P:Nat->Prop}{w:World}{p:Pr}{v:PrV}(h:PIn P w p v):(z6p (.pointer (some ⟨w.heap.size,0,none⟩)) (.agg (prC p v))).run prog (w.alloc (.cells zeroCells57 57))=.ok () (j2C w p v):=z0k (CAt.new _ w _) z0d (z0a p v) (z1c h)
noncomputable def j8c(w:World)(c:Cs)(v:CsV):World:=(w.alloc (.cells Z22 63)).setCells w.heap.size 0 (csC c v).toList
theorem j4V(w:World)(c:Cs)(v:CsV):CAt 63 (j8c w c v) w.heap.size (csC c v):=(CAt.new 63 w Z22).z0G (by rw[z0u];rfl)
theorem z8n(w:World)(c:Cs)(v:CsV):Below w.heap.size w (j8c w c v):=z0b (Nat.le_refl _) _ _ _ (znw w _)
theorem q4j{P:Nat->Prop}{w:World}{c:Cs}{v:CsV}(h:CIn P w c v):(q2y (.pointer (some ⟨w.heap.size,0,none⟩)) (.agg (csC c v))).run prog (w.alloc (.cells Z22 63))=.ok () (j8c w c v):=z2a (CAt.new _ w _) z0u (z0m c v) (z1W h)
end Wd
namespace Wd
open Go.ChangeShapes Go.WideShapes Go.ChangeAt Go.RowKit Go.Deep Pv
def ddL(x:Dd):List Value:=[.int .i64 x.k,.int .i64 x.c,.int .i64 x.d,.int .i64 x.v,.int .i64 x.n,.bool x.b,.bool x.f]
structure z7n(w:World)(ao:Option Addr)(b off:Nat)(l:List Dd):Prop where
 adr:0<l.length->ao=some ⟨b,off,none⟩
 len:l.length<=maxLen
 cell:∀ (i:Nat) (x:Dd),l[i]?=some x->w.rangeAt b (off+i * 7) (ddL x)
theorem z7n.lt{w:World}{ao:Option Addr}{b off:Nat}{l:List Dd}(h:z7n w ao b off l)(h0:0<l.length):b<w.heap.size:=
 World.block_lt_of_cell? w ⟨b,off+0 * 7+0,none⟩ (h.cell 0 l[0] (List.getElem?_eq_getElem h0) 0 _ rfl)
theorem z7n.over{w w':World}{B:Nat}{ao:Option Addr}{b off:Nat}{l:List Dd}(h:z7n w ao b off l)(hb:Below B w w')(hB:w.heap.size<=B):z7n w' ao b off l:=by
 refine ⟨h.adr,h.len,fun i x hx j v hv=>?_⟩;have h0:0<l.length:=by have:=(List.getElem?_eq_some_iff.1 hx).1;omega
 have:=h.lt h0;rw[hb.cell (p:=⟨b,off+i * 7+j,none⟩) (by show b<B;omega)]
 exact h.cell i x hx j v hv
theorem j6W:(prog.info? 29).map (·.size)=some 7:=by kernel_rfl
def j2D(v:Value):Sem Value:=Instr.loadAt 29 v
theorem q0v(v:Value):Instr.loadAt 29 v=j2D v:=rfl
theorem z7n.load{w:World}{ao:Option Addr}{b off:Nat}{l:List Dd}(h:z7n w ao b off l){i:Nat}{x:Dd}(hx:l[i]?=some x):(j2D (.pointer (some ⟨b,off+i * 7,none⟩))).run prog w=.ok (.agg (ddC x)) w:=
 run_loadAt_mid (P:=prog) w b (off+i * 7) 29 (ddL x) _ (h.cell i x hx) underlying29 rfl (by rw[j6W];rfl)
theorem j4s{β:Type}{p:Nat->β->Prop}(d:β){n:Nat}(h:∀ i,i<n->∃ y,p i y):∃ f:Nat->β,∀ i,i<n->p i (f i):=by
 refine ⟨fun i=>if hi:i<n then Classical.choose (h i hi) else d,fun i hi=>?_⟩;simp only[dif_pos hi];exact Classical.choose_spec (h i hi)
theorem cI':prog.cellsOf 3=1:=by kernel_rfl
theorem cT':prog.cellsOf 4=1:=by kernel_rfl
theorem cDd:prog.cellsOf 29=7:=by kernel_rfl
section
variable {H:Type} {enc:TypeId×Value->H} {W:World}
theorem j4j{m:Nat}{l:List Value}{y:DataW H×List MemPlace}(h:DataW.trod enc prog W 0 (fun _=>true) true m 29 l=some y):∃ x:Dd,l=ddL x:=by
 obtain ⟨xs,n,_,_,hl,hxl,hx⟩:=DataW.trod_struct underlying29 h;rw[cDd]at hl
 match l,hl with
 | [a0,a1,a2,a3,a4,a5,a6],_ =>
  match xs,hxl with
  | [y0,y1,y2,y3,y4,y5,y6],_ =>
   have t0:=hx 0 _ rfl;have t1:=hx 1 _ rfl;have t2:=hx 2 _ rfl;have t3:=hx 3 _ rfl;have t4:=hx 4 _ rfl;have t5:=hx 5 _ rfl;have t6:=hx 6 _ rfl
   simp[cI',cT']at t0 t1 t2 t3 t4 t5 t6
   obtain ⟨q0,e0,_⟩:=DataW.trod_int underlying3 t0;obtain ⟨q1,e1,_⟩:=DataW.trod_int underlying3 t1;obtain ⟨q2,e2,_⟩:=DataW.trod_int underlying3 t2;obtain ⟨q3,e3,_⟩:=DataW.trod_int underlying3 t3;obtain ⟨q4,e4,_⟩:=DataW.trod_int underlying3 t4;obtain ⟨q5,e5,_⟩:=DataW.trod_bool underlying4 t5;obtain ⟨q6,e6,_⟩:=DataW.trod_bool underlying4 t6
   simp at e0 e1 e2 e3 e4 e5 e6
   subst e0 e1 e2 e3 e4 e5 e6;exact ⟨⟨q0,q1,q2,q3,q4,q5,q6⟩,rfl⟩
theorem z8z{r:Reach}{b0:Nat}{v:Value}{d:DataW H}{p:List MemPlace}(hv:Value.okWide prog W r b0 22 v)(h:DataW.Trod enc prog W 0 (fun _=>true) true 22 v d p) :
  ∃ (l:List Dd) (ao:Option Addr) (c b off:Nat),v=.slice ao l.length c/\z7n W ao b off l/\(ao=none->c=0)/\l.length<=c:=by
 obtain ⟨a,len,cap,rfl⟩:=okWide_slice underlying22 hv;obtain ⟨fuel,hf⟩:=h
 rcases open_slice underlying22 hf with ⟨h0,_⟩ | ⟨a,len',cap',k,n,D,Pl,hcs,_,hlc,hmx,hk,hy,hx⟩
 ·simp[Value.cells]at h0
  obtain ⟨rfl,rfl,rfl⟩:=h0;exact ⟨[],none,0,0,0,rfl,⟨fun h=>absurd h (by simp),by simp,fun i x h=>by simp at h⟩,fun _=>rfl,Nat.le_refl _⟩
 simp[Value.cells]at hcs
 obtain ⟨rfl,rfl,rfl⟩:=hcs;simp only[if_true]at hk;subst hk;rw[cDd]at hx
 obtain ⟨g,hg⟩:=j4s (n:=k) (p:=fun i (x:Dd)=>W.cells? 0 (a.add (i * 7)) 7=some (ddL x)) ⟨0,0,0,0,0,false,false⟩ (fun i hi=>by
  obtain ⟨cs',h1,h2⟩:=hx i hi;obtain ⟨x,rfl⟩:=j4j h2
  exact ⟨x,h1⟩)
 have hlen:((List.range len).map g).length=len:=by simp
 by_cases h0:len=0
 ·subst h0;exact ⟨[],some a,k,0,0,rfl,⟨fun h=>absurd h (by simp),by simp,fun i x h=>by simp at h⟩,(fun h=>by cases h),Nat.zero_le _⟩
 have hcell:∀ i,i<k->∀ j v,(ddL (g i))[j]?=some v->W.cell? ((a.add (i * 7)).add j)=some v:=fun i hi j v hv=>by
  obtain ⟨_,hlen',hc⟩:=World.cells?_some (hg i hi);have hj:j<7:=by have:=(List.getElem?_eq_some_iff.1 hv).1;simpa [ddL] using this
  rw[hc j hj];exact hv
 obtain ⟨b,off,spot⟩:=a
 have hspot:spot=none:=by
  have:=hcell 0 (by omega) 0 _ rfl
  simpa [Addr.add] using World.cell?_spot this
 subst hspot;refine ⟨(List.range len).map g,some ⟨b,off,none⟩,k,b,off,by rw[hlen],⟨fun _=>rfl,by rw[hlen];omega,fun i x hi=>?_⟩,(fun h=>by cases h),by rw[hlen];omega⟩
 have hil:i<len:=by have:=(List.getElem?_eq_some_iff.1 hi).1;simpa using this
 obtain rfl:g i=x:=by simpa [hil] using hi
 have hc:=hcell i (by omega)
 simp only[Addr.add_lit]at hc;intro j v hv;exact hc j v hv
end
end Wd
namespace Wd
open Go.RowKit Pv Kc
def PLk(n:Nat)(w:World)(g:Nat)(p:Pr)(v:PrV):Prop:=CAt 57 w g (prC p v)/\PIn (fun b=>n<=b) w p v/\n<=g
def CLk(n:Nat)(w:World)(g:Nat)(c:Cs)(v:CsV):Prop:=CAt 63 w g (csC c v)/\CIn (fun b=>n<=b) w c v/\n<=g
theorem PLk.over{n:Nat}{w w':World}{g:Nat}{p:Pr}{v:PrV}(h:PLk n w g p v)(hb:Below w.heap.size w w'):PLk n w' g p v:=⟨h.1.over hb,h.2.1.over hb,h.2.2⟩
theorem CLk.over{n:Nat}{w w':World}{g:Nat}{c:Cs}{v:CsV}(h:CLk n w g c v)(hb:Below w.heap.size w w'):CLk n w' g c v:=⟨h.1.over hb,h.2.1.over hb,h.2.2⟩
theorem PLk.alt{n g0:Nat}{w w':World}{g:Nat}{p:Pr}{v:PrV}(h:PLk n w g p v)(ha:Alt g0 w w')(hg:g0<n):PLk n w' g p v:=
 ⟨ha.cat (by have:=h.2.2;omega) h.1,h.2.1.keep fun b hb hl=>ha.block b hl (by omega),h.2.2⟩
theorem PLk.lt{n:Nat}{w:World}{g:Nat}{p:Pr}{v:PrV}(h:PLk n w g p v):g<w.heap.size:=h.1.lt
theorem PLk.mk{n k:Nat}{w wb:World}{g:Nat}{p:Pr}{v:PrV}(hc:CAt 57 wb g (prC p v))(h:PIn (fun b=>k<=b) w p v)(hb:Below w.heap.size w wb)(hk:n<=k)(hg:n<=g):PLk n wb g p v:=⟨hc,(h.mono (P':=fun b=>n<=b) fun _ _ hp=>Nat.le_trans hk hp).over hb,hg⟩
theorem CLk.mk{n k:Nat}{w wb:World}{g:Nat}{c:Cs}{v:CsV}(hc:CAt 63 wb g (csC c v))(h:CIn (fun b=>k<=b) w c v)(hb:Below w.heap.size w wb)(hk:n<=k)(hg:n<=g):CLk n wb g c v:=⟨hc,(h.mono (P':=fun b=>n<=b) fun _ _ hp=>Nat.le_trans hk hp).over hb,hg⟩
end Wd
namespace Wd
open Go.RowKit Pv
theorem j0U{P:Nat->Prop}{w wx:World}{l:List ByteArray}{v:Value}(h:z0D P w v 1 16 (txC l))(hb:Below w.heap.size w wx):∃ A C,v=.slice A l.length C/\l.length<=140737488351232/\∀ k,k<l.length->∃ b o,A=some ⟨b,o,none⟩/\wx.cell? ⟨b,o+k,none⟩=some (.string (l.getD k ByteArray.empty)):=by
 obtain ⟨A0,n0,C0,C1,e0,-,h⟩:=h;obtain ⟨A,C,e,s,-,c,-⟩:=(h.over hb).open (z1P l) (by decide)
 cases e;refine ⟨A0,C0,e0,by omega,fun k hk=>?_⟩
 obtain ⟨b,o,ea,-,-,hc⟩:=c (by omega)
 exact ⟨b,o,ea,hc _ _ (z7t l k hk)⟩
end Wd
namespace Wd
open Go.RowKit Pv Kc
def j8Y(x y:Wo):Prop:=∀ i,i<2->(x.p.L i).out.S <+: (y.p.L i).out.S/\(x.c i).out.S <+: (y.c i).out.S
def j5O(x:Wo):Prop:=∀ i,i<2->(x.p.L i).on=false->(x.p.L i).gone=false->(x.p.L i).out.S=[]/\(x.c i).out.S=[]
theorem q8K(l:Ln.Line)(s:ByteArray)(t:Int):l.S <+: (Ln.z4W l s t).S:=by
 unfold Ln.z4W
 split
 ·exact List.prefix_append _ _
 ·exact List.prefix_refl _
theorem z9B(c:Cs)(k i v n now:Int):c.out.S <+: (z2w c k i v n now).1.out.S:=by
 unfold z2w
 split
 ·exact q8K _ _ _
 ·exact List.prefix_refl _
theorem q2X:∀ (l:List (Int×Int)) (c:Cs),c.out.S <+: (z2z c l).out.S
 | [],_=>List.prefix_refl _
 | x :: l,c=>by
  unfold z2z
  split
  ·split
   ·exact (z9B c _ _ _ _ _).trans (q2X l _)
   ·exact List.prefix_refl _
  ·exact List.prefix_refl _
theorem q0r:∀ (l:List Pkt) (c:Cs),(l.foldl takeC c).out=c.out
 | [],_=>rfl
 | x :: l,c=>by
  rw[List.foldl_cons,q0r l];rfl
theorem j0N(c:Cs)(now:Int):c.out.S <+: (z9F c now).1.out.S:=by
 unfold z9F
 split
 ·split
  ·have h:=q2X (z2y { c with h:=c.h+1,t:=now }).rp { z2y { c with h:=c.h+1,t:=now } with pd:=[] }
   have e:({ z2y { c with h:=c.h+1,t:=now } with pd:=[] }:Cs).out=c.out:=q0r _ _
   rw[e]at h;exact h
  ·exact List.prefix_refl _
 ·exact List.prefix_refl _
theorem q9W(c:Cs)(v now:Int):c.out.S <+: (z4d c v now).1.out.S:=by
 unfold z4d
 repeat' split
 all_goals first | exact List.prefix_refl _ | exact z9B c _ _ _ _ _
theorem q4q(c:Cs)(v i now:Int):c.out.S <+: (z1J c v i now).1.out.S:=by
 unfold z1J
 repeat' split
 all_goals first | exact List.prefix_refl _ | exact z9B c _ _ _ _ _
theorem j0q{h t:Int}{set:List (Int×Int)}{y x:Lk}(H:j0W h t set y x):y.out.S <+: x.out.S:=by
 obtain ⟨z,hz,-,hx⟩:=H.ex
 rcases hx with rfl | T
 ·rw[hz.out];exact List.prefix_refl _
 ·rw[T.eq,← hz.out];exact q8K _ _ _
theorem j4o(p:Pr)(now:Int):∀ i,i<2->(p.L i).out.S <+: ((endP p now).1.L i).out.S:=by
 intro i hi
 by_cases hok:z0B p=true/\isT now=true/\p.t<=now
 ·exact j0q ((z6O hok).lk i hi)
 ·unfold endP;rw[if_neg hok];exact List.prefix_refl _
theorem j7k(p:Pr)(now:Int):∀ i,i<2->((endP p now).1.L i).on=(p.L i).on/\((endP p now).1.L i).gone=(p.L i).gone:=by
 intro i hi
 by_cases hok:z0B p=true/\isT now=true/\p.t<=now
 ·have h:=j0W.same ((z6O hok).lk i hi);exact ⟨h.1,h.2.1⟩
 ·unfold endP;rw[if_neg hok];exact ⟨rfl,rfl⟩
structure StL(x y:Wo)(i:Nat):Prop where
 pre:(x.p.L i).out.S <+: (y.p.L i).out.S/\(x.c i).out.S <+: (y.c i).out.S
 nil:(y.p.L i).on=false->(y.p.L i).gone=false->(x.p.L i).on=false/\(x.p.L i).gone=false/\(y.p.L i).out.S=(x.p.L i).out.S/\(y.c i).out.S=(x.c i).out.S
theorem StL.same{x y:Wo}{i:Nat}(h1:(y.p.L i).on=(x.p.L i).on/\(y.p.L i).gone=(x.p.L i).gone/\(y.p.L i).out.S=(x.p.L i).out.S)(h4:(y.c i).out.S=(x.c i).out.S):StL x y i:=
 ⟨⟨by rw[h1.2.2];exact List.prefix_refl _,by rw[h4];exact List.prefix_refl _⟩,fun a b=>⟨h1.1 ▸ a,h1.2.1 ▸ b,h1.2.2,h4⟩⟩
theorem StL.refl(x:Wo)(i:Nat):StL x x i:=StL.same ⟨rfl,rfl,rfl⟩ rfl
theorem j4n(p:Pr)(d v n:Int):(z2j p d v n).1.L=p.L:=by
 unfold z2j
 split <;> rfl
theorem j6b(p:Pr)(v n:Int):(z3z p v n).1.L=p.L:=by
 unfold z3z
 repeat' split
 all_goals rfl
theorem j4u(p:Pr)(d v n now:Int):(z1t p d v n now).1.L=p.L∨(z1t p d v n now).1.L=z1j p.L:=by
 unfold z1t
 repeat' split
 all_goals first | exact .inr rfl | exact .inl rfl
theorem j7I(x:Wo)(d:Dd)(i:Nat):StL x (atP x d).1 i:=by
 unfold atP
 split
 ·exact StL.same (by show ((z2j x.p d.d d.v d.n).1.L i).on=_/\((z2j x.p d.d d.v d.n).1.L i).gone=_/\((z2j x.p d.d d.v d.n).1.L i).out.S=_;rw[j4n];exact ⟨rfl,rfl,rfl⟩) rfl
 ·split
  ·refine StL.same ?_ rfl
   show ((z1t x.p d.d d.v d.n x.ck).1.L i).on=_/\((z1t x.p d.d d.v d.n x.ck).1.L i).gone=_/\((z1t x.p d.d d.v d.n x.ck).1.L i).out.S=_
   rcases j4u x.p d.d d.v d.n x.ck with e | e
   ·rw[e];exact ⟨rfl,rfl,rfl⟩
   ·rw[e];have hf:=z4x x.p.L i;exact ⟨hf.1,hf.2.1,by rw[hf.2.2.1]⟩
  ·split
   ·exact StL.same ⟨rfl,rfl,rfl⟩ rfl
   ·exact StL.same (by show ((z3z x.p d.v d.n).1.L i).on=_/\((z3z x.p d.v d.n).1.L i).gone=_/\((z3z x.p d.v d.n).1.L i).out.S=_;rw[j6b];exact ⟨rfl,rfl,rfl⟩) rfl
theorem j1W(x:Wo)(i:Nat)(hi:i<2):StL x (z5D x).1 i:=by
 unfold z5D
 split
 ·refine ⟨⟨j4o _ _ i hi,List.prefix_refl _⟩,fun a b=>?_⟩;have e:=j7k x.p x.ck i hi;have a':(x.p.L i).on=false:=e.1 ▸ a;refine ⟨a',e.2 ▸ b,?_,rfl⟩
  show ((endP x.p x.ck).1.L i).out.S=_
  by_cases hok:z0B x.p=true/\isT x.ck=true/\x.p.t<=x.ck
  ·obtain ⟨z,hz,-,hx⟩:=((z6O hok).lk i hi).ex
   rcases hx with e1 | T
   ·rw[e1,hz.out]
   ·have:=T.on;rw[hz.on,a']at this;cases this
  ·unfold endP;rw[if_neg hok]
 ·exact StL.refl _ _
theorem q9i(x:Wo)(hn:j5O x)(c:Int)(i:Nat)(hi:i<2):StL x (z3w x c).1 i:=by
 unfold z3w
 split
 ·rename_i hc
  split
  ·rename_i h0
   have hb:(z0T x.p c).1.L=z0Q x.p.L c.toNat (q0U x.p)/\(x.p.L c.toNat).on=false/\(x.p.L c.toNat).gone=false:=by
    unfold z0T at h0 ⊢
    by_cases h1:z0B x.p=true
    ·rw[if_pos h1,if_pos hc]at h0;rw[if_pos h1,if_pos hc]
     by_cases h3:(x.p.L c.toNat).gone=true
     ·rw[if_pos h3]at h0;cases h0
     ·rw[if_neg h3]at h0 ⊢
      by_cases h4:(x.p.L c.toNat).on=true
      ·rw[if_pos h4]at h0;cases h0
      ·rw[if_neg h4]at h0 ⊢
       by_cases h5:x.p.h=0∨x.p.set.length=0
       ·rw[if_pos h5]at h0;cases h0
       ·rw[if_neg h5];exact ⟨rfl,by simpa using h4,by simpa using h3⟩
    ·rw[if_neg h1]at h0;cases h0
   by_cases e:i=c.toNat
   ·subst e;have hnl:=hn _ hi hb.2.1 hb.2.2;refine ⟨⟨by rw[hnl.1];exact List.nil_prefix,by rw[hnl.2];exact List.nil_prefix⟩,fun a _=>?_⟩
    have:((z0T x.p c).1.L c.toNat).on=false:=a;rw[hb.1]at this;unfold z0Q at this;rw[if_pos rfl]at this;cases this
   ·refine StL.same ?_ ?_
    ·show ((z0T x.p c).1.L i).on=_/\((z0T x.p c).1.L i).gone=_/\((z0T x.p c).1.L i).out.S=_
     rw[hb.1];unfold z0Q;rw[if_neg e];exact ⟨rfl,rfl,rfl⟩
    ·show (z2Q x.c c.toNat _ i).out.S=_
     rw[z2M _ _ e]
  ·exact StL.refl _ _
 ·exact StL.refl _ _
theorem z9C{x:Wo}{j:Nat}{y:Cs}{hp hc:Nat->Hd}(hon:(x.p.L j).on=true)(hy:(x.c j).out.S <+: y.out.S)(i:Nat):StL x { x with c:=z2Q x.c j y,hp:=hp,hc:=hc } i:=by
 by_cases e:i=j
 ·subst e;refine ⟨⟨List.prefix_refl _,?_⟩,fun a _=>?_⟩
  ·show _ <+: (z2Q x.c i y i).out.S
   rw[z2A];exact hy
  ·have:(x.p.L i).on=false:=a;rw[hon]at this;cases this
 ·refine StL.same ⟨rfl,rfl,rfl⟩ ?_
  show (z2Q x.c j y i).out.S=_
  rw[z2M _ _ e]
theorem q7U(c:Cs)(l:List Int):(z3Y c l).1.out=c.out:=by
 unfold z3Y
 repeat' split
 all_goals rfl
theorem j3U(p:Pr)(c:Int)(l:List Int):(z3E p c l).1.L=p.L:=by
 unfold z3E
 repeat' split
 all_goals rfl
theorem z8A(x:Wo)(j:Nat)(b:Bool)(s:ByteArray):(z1V x j b s).1.p.L=x.p.L/\∀ i,((z1V x j b s).1.c i).out=(x.c i).out:=by
 unfold z1V
 split
 ·exact ⟨j3U _ _ _,fun _=>rfl⟩
 ·refine ⟨rfl,fun i=>?_⟩
  show (z2Q x.c j _ i).out=_
  by_cases e:i=j
  ·subst e;rw[z2A,q7U]
  ·rw[z2M _ _ e]
theorem q3j{x:Wo}{j:Nat}{b:Bool}{l:Ln.Line}(hl:l.S=(z1r x j b).S)(i:Nat):((z1T x j b l).p.L i).on=(x.p.L i).on/\((z1T x j b l).p.L i).gone=(x.p.L i).gone/\((z1T x j b l).p.L i).out.S=(x.p.L i).out.S/\((z1T x j b l).c i).out.S=(x.c i).out.S:=by
 cases b
 ·refine ⟨?_,?_,?_,rfl⟩
  all_goals
   unfold z1T;rw[if_neg (by simp)]
   dsimp only;unfold z0Q
   split
   ·rename_i e;subst e
    first | rfl | exact hl
   ·rfl
 ·refine ⟨rfl,rfl,rfl,?_⟩
  show (z2Q x.c j _ i).out.S=_
  by_cases e:i=j
  ·subst e;rw[z2A];exact hl
  ·rw[z2M _ _ e]
theorem j7a(l:Ln.Line)(k:Int)(s:ByteArray)(a b:Int):(Ln.z5l l k s a b).S=l.S:=by
 unfold Ln.z5l
 split <;> rfl
theorem j7A(l:Ln.Line)(k a b:Int):(Ln.z6X l k a b).S=l.S:=by
 unfold Ln.z6X
 split <;> rfl
theorem q3O(x:Wo)(j:Nat)(b bb:Bool)(s:ByteArray):(z1r (z1V x j bb s).1 j b).S=(z1r x j b).S:=by
 have h:=z8A x j bb s;cases b
 ·show ((z1V x j bb s).1.p.L j).out.S=_
  rw[h.1];rfl
 ·show ((z1V x j bb s).1.c j).out.S=_
  rw[h.2];rfl
theorem j4H(x:Wo)(j:Nat)(b f:Bool)(i:Nat):StL x (q0O x j b f).1 i:=by
 have hh:=z8A x j b (z0P x j b f);unfold q0O
 split
 ·split
  ·dsimp only;have hp:=q3j (x:=(z1V x j b (z0P x j b f)).1) (j:=j) (b:=b) (l:=Ln.z5l (z1r x j b) ((z1r x j b).g+1) (z0P x j b f) (q3Q x j b) x.ck) (by rw[j7a,q3O]) i
   rw[hh.1,hh.2]at hp;exact StL.same ⟨hp.1,hp.2.1,hp.2.2.1⟩ hp.2.2.2
  ·refine StL.same ?_ ?_
   ·dsimp only;rw[hh.1];exact ⟨rfl,rfl,rfl⟩
   ·dsimp only;rw[hh.2]
 ·exact StL.refl _ _
theorem q8k(c:Cs):(z1z c).out.S=c.out.S:=by
 unfold z1z
 split <;> rfl
theorem j3H(x:Wo)(j i:Nat):StL x (q5r x j) i:=by
 have hc:((q5r x j).c i).out.S=(x.c i).out.S:=by
  show (z2Q x.c j _ i).out.S=_
  by_cases e:i=j
  ·subst e;rw[z2A,q8k]
  ·rw[z2M _ _ e]
 by_cases hr:z0B x.p=true/\z8k x.p j=true
 ·have hL:(q5r x j).p.L=z0Q x.p.L j (z3W (x.p.L j)):=by
   show (z0A x.p j).L=_
   unfold z0A;rw[if_pos hr];rfl
  by_cases e:i=j
  ·subst e
   have h1:((q5r x i).p.L i)=z3W (x.p.L i):=by
    rw[hL];unfold z0Q;rw[if_pos rfl]
   refine ⟨⟨by rw[h1];exact List.prefix_refl _,by rw[hc];exact List.prefix_refl _⟩,fun _ b=>?_⟩
   rw[h1]at b;cases b
  ·have h1:((q5r x j).p.L i)=x.p.L i:=by
    rw[hL];unfold z0Q;rw[if_neg e]
   exact StL.same (by rw[h1];exact ⟨rfl,rfl,rfl⟩) hc
 ·have hL:(q5r x j).p.L=x.p.L:=by
   show (z0A x.p j).L=_
   unfold z0A;rw[if_neg hr]
  exact StL.same (by rw[hL];exact ⟨rfl,rfl,rfl⟩) hc
theorem j3S(x:Wo)(j:Nat)(b:Bool)(k:Int)(i:Nat):StL x (z9D x j b k).1 i:=by
 unfold z9D
 split
 ·dsimp only;have hp:=q3j (x:=x) (j:=j) (b:=b) (l:=Ln.z6X (z1r x j b) k (q8o x j b) (j7u x j b)) (j7A _ _ _ _) i;have hcut:=j3H (z1T x j b (Ln.z6X (z1r x j b) k (q8o x j b) (j7u x j b))) j i;refine ⟨⟨by rw[← hp.2.2.1];exact hcut.pre.1,by rw[← hp.2.2.2];exact hcut.pre.2⟩,fun a e=>?_⟩
  have:=hcut.nil a e;exact ⟨hp.1 ▸ this.1,hp.2.1 ▸ this.2.1,this.2.2.1.trans hp.2.2.1,this.2.2.2.trans hp.2.2.2⟩
 ·exact StL.refl _ _
theorem j1d(x:Wo)(j:Nat)(b:Bool)(i:Nat):StL x (z5b x j b) i:=by
 unfold z5b
 split
 ·refine StL.same ?_ rfl;dsimp only;unfold z0Q
  split
  ·rename_i e;subst e;exact ⟨rfl,rfl,rfl⟩
  ·exact ⟨rfl,rfl,rfl⟩
 ·refine StL.same ⟨rfl,rfl,rfl⟩ ?_
  show (z2Q x.c j _ i).out.S=_
  by_cases e:i=j
  ·subst e;rw[z2A];rfl
  ·rw[z2M _ _ e]
theorem q9L(x:Wo)(j:Nat)(hon:(x.p.L j).on=true)(d:Dd)(i:Nat):StL x (z5v x j d).1 i:=by
 unfold z5v
 split
 ·dsimp only;unfold z5u
  split
  ·exact z9C hon (j0N _ _) i
  ·exact StL.refl _ _
 ·split
  ·exact j1d _ _ _ _
  ·split
   ·exact j4H _ _ _ _ _
   ·split
    ·exact j3S _ _ _ _ _
    ·dsimp only;unfold q2G
     split
     ·exact z9C (hp:=x.hp) (hc:=x.hc) hon (q9W _ _ _) i
     ·exact z9C (hp:=x.hp) (hc:=x.hc) hon (q4q _ _ _ _) i
theorem q9J{x:Wo}(ho:∀ i,i<2->(x.c i).on=(x.p.L i).on)(hn:j5O x)(d:Dd)(i:Nat)(hi:i<2):StL x (z2Z x d).1 i:=by
 unfold z2Z
 split
 ·exact j7I _ _ _
 ·split
  ·unfold z6s
   split <;> exact StL.same ⟨rfl,rfl,rfl⟩ rfl
  ·split
   ·exact j1W _ _ hi
   ·split
    ·exact q9i _ hn _ _ hi
    ·split
     ·split
      ·rename_i h
       have hj:d.c.toNat<2:=by
        have:=h.1;unfold isC at this;simp only[Bool.and_eq_true,decide_eq_true_eq]at this;omega
       exact q9L _ _ ((ho _ hj).symm.trans h.2) _ _
      ·exact StL.refl _ _
     ·exact StL.refl _ _
theorem j3g{x:Wo}(h:Inv x)(hn:j5O x)(d:Dd):j8Y x (doW x d).1/\j5O (doW x d).1:=by
 have key:∀ i,i<2->StL x (doW x d).1 i:=by
  intro i hi;unfold doW
  split
  ·exact StL.refl _ _
  ·have:=q9J (x:=z1D x) (fun i hi=>(h.on i hi).1) hn d i hi;exact ⟨this.pre,this.nil⟩
 refine ⟨fun i hi=>(key i hi).pre,fun i hi a b=>?_⟩;obtain ⟨c1,c2,c3,c4⟩:=(key i hi).nil a b;have:=hn i hi c1 c2;exact ⟨c3.trans this.1,c4.trans this.2⟩
theorem j4Y:j5O z6t:=fun _ _ _ _=>⟨rfl,rfl⟩
theorem j3j(l:List Dd):∀ k,k<=l.length->j5O (stW l k)
 | 0,_=>j4Y
 | k+1,h=>by
  rw[z9c (List.getElem?_eq_getElem (show k<l.length by omega))]
  exact (j3g (j6u l k) (j3j l k (by omega)) _).2
theorem j2b{x:Wo}{d:Dd}(hk:d.k=9)(hc:(doW x d).2.1=0):∃ i:Nat,i<2/\d.c=(i:Int)/\(doW x d).2.2=(z1r (doW x d).1 i d.b).g:=by
 unfold doW at hc ⊢
 split at hc
 ·cases hc
 ·rename_i hn;rw[if_neg hn];dsimp only at hc ⊢;rw[if_pos hc];unfold z2Z at hc ⊢;rw[if_neg (by omega),if_neg (by omega),if_neg (by omega),if_neg (by omega),if_pos (by omega)]at hc ⊢
  split at hc
  ·rename_i h;rw[if_pos h]
   have hj:d.c.toNat<2/\d.c=(d.c.toNat:Int):=by
    have:=h.1;unfold isC at this;simp only[Bool.and_eq_true,decide_eq_true_eq]at this;omega
   refine ⟨d.c.toNat,hj.1,hj.2,?_⟩;unfold z5v at hc ⊢;rw[if_neg (by omega),if_neg (by omega),if_pos hk]at hc ⊢
   generalize d.c.toNat=j at *;unfold q0O at hc ⊢
   split at hc
   ·rename_i h0;rw[if_pos h0]
    split at hc
    ·rename_i h1;rw[if_pos h1];dsimp only
     have hg:(Ln.z5l (z1r (z1D x) j d.b) ((z1r (z1D x) j d.b).g+1) (z0P (z1D x) j d.b d.f) (q3Q (z1D x) j d.b) (z1D x).ck).g=(z1r (z1D x) j d.b).g+1:=by
      unfold Ln.z5l;rw[if_pos h0]
     refine hg.symm.trans ?_;clear hg h0 h1 hc;generalize Ln.z5l (z1r (z1D x) j d.b) ((z1r (z1D x) j d.b).g+1) (z0P (z1D x) j d.b d.f) (q3Q (z1D x) j d.b) (z1D x).ck=L;generalize (z1V (z1D x) j d.b (z0P (z1D x) j d.b d.f)).1=y;cases d.b
     ·show L.g=((z1T y j false L).p.L j).out.g
      unfold z1T z0Q
      simp
     ·show L.g=((z1T y j true L).c j).out.g
      show L.g=(z2Q y.c j _ j).out.g
      rw[z2A]
    ·rename_i h1;exact absurd hc h1
   ·rename_i h0;exact absurd hc h0
  ·cases hc
structure z2W(a b:Nat)(w w':World):Prop where
 os:w'.os=w.os
 tape:w'.tape=w.tape
 output:w'.output=w.output
 size:w.heap.size<=w'.heap.size
 block:∀ k,k<w.heap.size->k≠a->k≠b->w'.heap[k]?=w.heap[k]?
theorem z2W.trans{a b:Nat}{w w1 w2:World}(h:z2W a b w w1)(k:z2W a b w1 w2):z2W a b w w2:=⟨k.os.trans h.os,k.tape.trans h.tape,k.output.trans h.output,Nat.le_trans h.size k.size,fun i hi h1 h2=>(k.block i (Nat.lt_of_lt_of_le hi h.size) h1 h2).trans (h.block i hi h1 h2)⟩
theorem z2W.of{a b:Nat}{w w':World}(h:Below w.heap.size w w'):z2W a b w w':=⟨h.os,h.tape,h.output,h.size,fun k hk _ _=>h.block k hk⟩
theorem z2W.left{a b:Nat}{w w':World}(h:Alt a w w'):z2W a b w w':=⟨h.os,h.tape,h.output,h.size,fun k hk h1 _=>h.block k hk h1⟩
theorem z2W.right{a b:Nat}{w w':World}(h:Alt b w w'):z2W a b w w':=⟨h.os,h.tape,h.output,h.size,fun k hk _ h2=>h.block k hk h2⟩
structure OrS(g bs bb k:Nat)(x0 x:Wo)(s b:Nat->Value)(w:World):Prop where
 cs:CAt 24 w bs #[s 0,s 1]
 cb:CAt 24 w bb #[b 0,b 1]
 s1:∀ i,i<2->i<k->z0D (fun c=>g<c) w (s i) 1 16 (txC (x.p.L i).out.S)/\z0D (fun c=>g<c) w (b i) 1 16 (txC (x.c i).out.S)
 s0:∀ i,i<2->k<=i->z0D (fun c=>g<c) w (s i) 1 16 (txC (x0.p.L i).out.S)/\z0D (fun c=>g<c) w (b i) 1 16 (txC (x0.c i).out.S)
theorem OrS.over{g bs bb k:Nat}{x0 x:Wo}{s b:Nat->Value}{w w':World}(h:OrS g bs bb k x0 x s b w)(hb:Below w.heap.size w w'):OrS g bs bb k x0 x s b w':=
 ⟨h.cs.over hb,h.cb.over hb,fun i hi hk=>⟨(h.s1 i hi hk).1.over hb,(h.s1 i hi hk).2.over hb⟩,fun i hi hk=>⟨(h.s0 i hi hk).1.over hb,(h.s0 i hi hk).2.over hb⟩⟩
theorem OrS.alt{g bs bb k g0:Nat}{x0 x:Wo}{s b:Nat->Value}{w w':World}(h:OrS g bs bb k x0 x s b w)(ha:Alt g0 w w')(h0:g0<=g)(h1:bs≠g0)(h2:bb≠g0):OrS g bs bb k x0 x s b w':=by
 have kp:∀ {v:Value} {cs:List Value},z0D (fun c=>g<c) w v 1 16 cs->z0D (fun c=>g<c) w' v 1 16 cs:=fun hr=>hr.keep fun c hc hl=>ha.block c hl (by omega)
 exact ⟨ha.cat h1 h.cs,ha.cat h2 h.cb,fun i hi hk=>⟨kp (h.s1 i hi hk).1,kp (h.s1 i hi hk).2⟩,fun i hi hk=>⟨kp (h.s0 i hi hk).1,kp (h.s0 i hi hk).2⟩⟩
theorem OrS.next{g bs bb k:Nat}{x0 x:Wo}{s b:Nat->Value}{w:World}(h:OrS g bs bb k x0 x s b w)(hk:k<2)(hne:bs≠bb)(hs:bs<g)(hb:bb<g){u v:Value}(hu:z0D (fun c=>g<c) w u 1 16 (txC (x.p.L k).out.S))(hv:z0D (fun c=>g<c) w v 1 16 (txC (x.c k).out.S)) :
  OrS g bs bb (k+1) x0 x (fun i=>if i=k then u else s i) (fun i=>if i=k then v else b i) ((w.setCell ⟨bs,k,none⟩ u).setCell ⟨bb,k,none⟩ v):=by
 have kp:∀ {y:Value} {cs:List Value},z0D (fun c=>g<c) w y 1 16 cs->z0D (fun c=>g<c) ((w.setCell ⟨bs,k,none⟩ u).setCell ⟨bb,k,none⟩ v) y 1 16 cs:=fun hr=>hr.keep fun c hc _=>by
  rw[Below.heap_setCell _ _ _ _ (show c≠bb by omega),Below.heap_setCell _ _ _ _ (show c≠bs by omega)]
 have c1:=(h.cs.set k u).other (c:=bb) (o:=k) hne v;have c2:=((h.cb.other (c:=bs) (o:=k) (fun e=>hne e.symm) u).set k v);refine ⟨?_,?_,fun i hi hik=>?_,fun i hi hik=>?_⟩
 ·rcases (show k=0∨k=1 by omega) with rfl | rfl <;> exact c1
 ·rcases (show k=0∨k=1 by omega) with rfl | rfl <;> exact c2
 ·by_cases e:i=k
  ·subst e;rw[if_pos rfl,if_pos rfl];exact ⟨kp hu,kp hv⟩
  ·rw[if_neg e,if_neg e];exact ⟨kp (h.s1 i hi (by omega)).1,kp (h.s1 i hi (by omega)).2⟩
 ·rw[if_neg (by omega),if_neg (by omega)]
  exact ⟨kp (h.s0 i hi (by omega)).1,kp (h.s0 i hi (by omega)).2⟩
theorem j8j(c:Cs)(v:CsV)(w:World):(Instr.field 63 (.agg (csC c v)) 9).run prog w=.ok (.agg #[v.said,v.due,.int .i64 c.out.g,.bool c.out.cl]) w:=by kernel_rfl
theorem j8M(a b:Value)(g:Int)(cl:Bool)(w:World):(Instr.field 47 (.agg #[a,b,.int .i64 g,.bool cl]) 2).run prog w=.ok (.int .i64 g) w:=by kernel_rfl
noncomputable def j0z:Code:=j1u [1,1,1,0] (f10.body.getD .skip)
set_option maxRecDepth 1000000 in
theorem or22_any(g gd gr gp:Nat)(dk dc rc n:Int)(db:Bool)(wl:World)
  (HF:Hid (∀ wx,Below wl.heap.size wl wx->wx.cell? ⟨gd,0,none⟩=some (.int .i64 dk)/\wx.cell? ⟨gd,1,none⟩=some (.int .i64 dc)/\wx.cell? ⟨gd,5,none⟩=some (.bool db)/\wx.cell? ⟨gr,0,none⟩=some (.int .i64 rc)/\wx.cell? ⟨gr,1,none⟩=some (.int .i64 n)))
  (HD:dk=9->rc=0->∃ i:Nat,i<2/\dc=(i:Int)/\((db=false/\∀ wx,Below wl.heap.size wl wx->wx.cell? ⟨gp,66+i * 14+6+2,none⟩=some (.int .i64 n))∨(db=true/\∃ c:Cs,n=c.out.g/\∀ wx,Below wl.heap.size wl wx->Calls prog 12 #[.pointer (some ⟨g,0,none⟩),.int .i64 (i:Int)] wx fun e w'=>∃ v,e=.returned (.agg (csC c v))/\Below wx.heap.size wx w')))
  {v1 v2 v3 v4 v5 v8 v10 v11 v12 v13 v14 v15 v16 v17 v18 v19 v20 v21 v22 v23 v24 v25 v26 v27 v28 v29 v30 v31 v32 v33 v34 v35 v36 v37 v38 v39 v40 v41 v42 v43 v44 v45 v46 v47 v48 v49 v50 v51 v52 v53 v54 v55 v56 v57 v58 v59 v60 v61 v62 v63 v64 v65 v66 v67 v68 v69 v70 v71 v72 v73 v74 v75 v76 v77 v78 v79 v80 v81 v82 v83 v84 v85 v86 v87 v88 v89 v90 v91 v92 v93 v94 v95 v96 v97 v98 v99 v100 v101 v102 v103 v104 v105 v106 v107 v108 v109:Value} {Q:Exit->Act->World->Prop} (hQ:∀ ⦃u0 u1 u2 u3 u4 u5 u6 u7 u8 u9 u10 u11 u12 u13 u14 u15 u16 u17 u18 u19 u20 u21 u22 u23 u24 u25 u26 u27 u28 u29 u30 u31 u32 u33 u34 u35 u36 u37 u38 u39 u40 u41 u42 u43 u44 u45 u46 u47 u48 u49:Value⦄ (wz:World),Below wl.heap.size wl wz->Q .normal ⟨List.toArray ((.pointer (some ⟨g,0,none⟩)) :: v1 :: v2 :: v3 :: v4 :: v5 :: (.pointer (some ⟨gd,0,none⟩)) :: (.pointer (some ⟨gr,0,none⟩)) :: (.bool true) :: (.pointer (some ⟨gp,0,none⟩)) :: v10 :: v11 :: v12 :: v13 :: v14 :: v15 :: v16 :: v17 :: v18 :: v19 :: v20 :: v21 :: v22 :: v23 :: v24 :: v25 :: v26 :: v27 :: v28 :: v29 :: v30 :: v31 :: v32 :: v33 :: v34 :: v35 :: v36 :: v37 :: v38 :: v39 :: v40 :: v41 :: v42 :: v43 :: v44 :: v45 :: v46 :: v47 :: v48 :: v49 :: v50 :: v51 :: v52 :: v53 :: v54 :: v55 :: v56 :: v57 :: v58 :: v59 :: v60 :: v61 :: v62 :: v63 :: v64 :: v65 :: v66 :: v67 :: v68 :: v69 :: v70 :: v71 :: v72 :: v73 :: v74 :: v75 :: v76 :: v77 :: v78 :: v79 :: v80 :: v81 :: v82 :: v83 :: v84 :: v85 :: v86 :: v87 :: v88 :: v89 :: v90 :: v91 :: v92 :: v93 :: v94 :: v95 :: v96 :: v97 :: v98 :: v99 :: v100 :: v101 :: v102 :: v103 :: v104 :: v105 :: v106 :: v107 :: v108 :: v109 :: u0 :: u1 :: u2 :: u3 :: u4 :: u5 :: u6 :: u7 :: u8 :: u9 :: u10 :: u11 :: u12 :: u13 :: u14 :: u15 :: u16 :: u17 :: u18 :: u19 :: u20 :: u21 :: u22 :: u23 :: u24 :: u25 :: u26 :: u27 :: u28 :: u29 :: u30 :: u31 :: u32 :: u33 :: u34 :: u35 :: u36 :: u37 :: u38 :: u39 :: u40 :: u41 :: u42 :: u43 :: u44 :: u45 :: u46 :: u47 :: u48 :: u49 :: []),[]⟩ wz) :
  Code.wp prog j0z Q ⟨List.toArray ((.pointer (some ⟨g,0,none⟩)) :: v1 :: v2 :: v3 :: v4 :: v5 :: (.pointer (some ⟨gd,0,none⟩)) :: (.pointer (some ⟨gr,0,none⟩)) :: v8 :: (.pointer (some ⟨gp,0,none⟩)) :: v10 :: v11 :: v12 :: v13 :: v14 :: v15 :: v16 :: v17 :: v18 :: v19 :: v20 :: v21 :: v22 :: v23 :: v24 :: v25 :: v26 :: v27 :: v28 :: v29 :: v30 :: v31 :: v32 :: v33 :: v34 :: v35 :: v36 :: v37 :: v38 :: v39 :: v40 :: v41 :: v42 :: v43 :: v44 :: v45 :: v46 :: v47 :: v48 :: v49 :: v50 :: v51 :: v52 :: v53 :: v54 :: v55 :: v56 :: v57 :: v58 :: v59 :: v60 :: v61 :: v62 :: v63 :: v64 :: v65 :: v66 :: v67 :: v68 :: v69 :: v70 :: v71 :: v72 :: v73 :: v74 :: v75 :: v76 :: v77 :: v78 :: v79 :: v80 :: v81 :: v82 :: v83 :: v84 :: v85 :: v86 :: v87 :: v88 :: v89 :: v90 :: v91 :: v92 :: v93 :: v94 :: v95 :: v96 :: v97 :: v98 :: v99 :: v100 :: v101 :: v102 :: v103 :: v104 :: v105 :: v106 :: v107 :: v108 :: v109 :: undef :: undef :: undef :: undef :: undef :: undef :: undef :: undef :: undef :: undef :: undef :: undef :: undef :: undef :: undef :: undef :: undef :: undef :: undef :: undef :: undef :: undef :: undef :: undef :: undef :: undef :: undef :: undef :: undef :: undef :: undef :: undef :: undef :: undef :: undef :: undef :: undef :: undef :: undef :: undef :: undef :: undef :: undef :: undef :: undef :: undef :: undef :: undef :: undef :: undef :: []),[]⟩ wl:=by
 have HK:=hide hQ;clear hQ
 conv=>arg 2;whnf
 refine wp_region_noPanic ?_;refine wp_region_held_drew (S:=fun wx=>Below wl.heap.size wl wx) (by kernel_rfl) (Below.refl _ _).drew (fun hS=>?_)
 by_cases h9:dk=9
 case neg =>
  refine Od.Z 0 (.pointer (some ⟨gd,0,none⟩)) 110 rfl rfl hS (fun wx hSw=>?_) ?_
  ·go_simp
  simp only[Od.pp,Od.pb,Od.pc];refine Od.Z 1 (.int .i64 dk) 111 rfl rfl hS (fun wx hSw=>?_) ?_
  ·obtain ⟨c0,c1,c5,e0,e1⟩:=HF.out wx hSw;go_simp
  simp only[Od.pp,Od.pb,Od.pc];refine Od.Z 2 (.bool true) 112 rfl rfl hS (fun wx hSw=>?_) ?_
  ·go_simp
  simp only[Od.pp,Od.pb,Od.pc];refine Od.Z 3 (.bool true) 113 rfl rfl hS (fun wx hSw=>?_) ?_
  ·go_simp
  simp only[Od.pp,Od.pb,Od.pc];refine Od.U 4 114 rfl rfl hS ?_;refine Od.U 5 115 rfl rfl hS ?_;simp only[Od.pp,Od.pb,Od.pc];refine Od.U 6 116 rfl rfl hS ?_;simp only[Od.pp,Od.pb,Od.pc];refine Od.Z 7 (.bool true) 117 rfl rfl hS (fun wx hSw=>?_) ?_
  ·go_simp
  simp only[Od.pp,Od.pb,Od.pc];refine Od.Z 8 (.bool true) 118 rfl rfl hS (fun wx hSw=>?_) ?_
  ·go_simp
  simp only[Od.pp,Od.pb,Od.pc];refine Od.U 9 119 rfl rfl hS ?_;simp only[Od.pp,Od.pb,Od.pc];refine Od.U 10 120 rfl rfl hS ?_;refine Od.U 11 121 rfl rfl hS ?_;simp only[Od.pp,Od.pb,Od.pc];refine Od.U 12 122 rfl rfl hS ?_;refine Od.U 13 123 rfl rfl hS ?_;simp only[Od.pp,Od.pb,Od.pc];refine Od.U 14 124 rfl rfl hS ?_;refine Od.U 15 125 rfl rfl hS ?_;simp only[Od.pp,Od.pb,Od.pc];refine Od.U 16 126 rfl rfl hS ?_;refine Od.U 17 127 rfl rfl hS ?_;simp only[Od.pp,Od.pb,Od.pc];refine Od.U 18 128 rfl rfl hS ?_;refine Od.U 19 129 rfl rfl hS ?_;simp only[Od.pp,Od.pb,Od.pc];refine Od.U 20 130 rfl rfl hS ?_;refine Od.U 21 131 rfl rfl hS ?_;simp only[Od.pp,Od.pb,Od.pc];refine Od.U 22 132 rfl rfl hS ?_;refine Od.U 23 133 rfl rfl hS ?_;simp only[Od.pp,Od.pb,Od.pc];refine Od.U 24 134 rfl rfl hS ?_;refine Od.U 25 135 rfl rfl hS ?_;simp only[Od.pp,Od.pb,Od.pc];refine Od.U 26 136 rfl rfl hS ?_;refine Od.U 27 137 rfl rfl hS ?_;simp only[Od.pp,Od.pb,Od.pc];refine Od.U 28 138 rfl rfl hS ?_;refine Od.U 29 139 rfl rfl hS ?_;simp only[Od.pp,Od.pb,Od.pc];refine Od.U 30 140 rfl rfl hS ?_;refine Od.U 31 141 rfl rfl hS ?_;simp only[Od.pp,Od.pb,Od.pc];refine Od.U 32 142 rfl rfl hS ?_;refine Od.U 33 143 rfl rfl hS ?_;simp only[Od.pp,Od.pb,Od.pc];refine Od.U 34 144 rfl rfl hS ?_;refine Od.U 35 145 rfl rfl hS ?_;simp only[Od.pp,Od.pb,Od.pc];refine Od.U 36 146 rfl rfl hS ?_;refine Od.U 37 147 rfl rfl hS ?_;simp only[Od.pp,Od.pb,Od.pc];refine Od.U 38 148 rfl rfl hS ?_;refine Od.U 39 149 rfl rfl hS ?_;simp only[Od.pp,Od.pb,Od.pc];refine Od.U 40 150 rfl rfl hS ?_;refine Od.U 41 151 rfl rfl hS ?_;simp only[Od.pp,Od.pb,Od.pc];refine Od.U 42 152 rfl rfl hS ?_;refine Od.U 43 153 rfl rfl hS ?_;simp only[Od.pp,Od.pb,Od.pc];refine Od.U 44 154 rfl rfl hS ?_;refine Od.U 45 155 rfl rfl hS ?_;simp only[Od.pp,Od.pb,Od.pc];refine Od.U 46 156 rfl rfl hS ?_;refine Od.U 47 157 rfl rfl hS ?_;simp only[Od.pp,Od.pb,Od.pc];refine Od.U 48 158 rfl rfl hS ?_;simp only[Od.pp,Od.pb,Od.pc];refine Od.Z 49 (.bool true) 159 rfl rfl hS (fun wx hSw=>?_) ?_
  ·go_simp
  simp only[Od.pp,Od.pb,Od.pc];refine Od.Z 50 (.bool true) 8 rfl rfl hS (fun wx hSw=>?_) ?_
  ·go_simp
  simp only[Od.pp,Od.pb,Od.pc];refine wpAnyH_done (by kernel_rfl) ?_ _
  exact NoPanic.normal (HK.out _ hS)
 subst h9
 by_cases h0:rc=0
 case neg =>
  refine Od.Z 0 (.pointer (some ⟨gd,0,none⟩)) 110 rfl rfl hS (fun wx hSw=>?_) ?_
  ·go_simp
  simp only[Od.pp,Od.pb,Od.pc];refine Od.Z 1 (.int .i64 9) 111 rfl rfl hS (fun wx hSw=>?_) ?_
  ·obtain ⟨c0,c1,c5,e0,e1⟩:=HF.out wx hSw;go_simp
  simp only[Od.pp,Od.pb,Od.pc];refine Od.Z 2 (.bool false) 112 rfl rfl hS (fun wx hSw=>?_) ?_
  ·go_simp
  simp only[Od.pp,Od.pb,Od.pc];refine Od.Z 3 (.bool false) 113 rfl rfl hS (fun wx hSw=>?_) ?_
  ·go_simp
  simp only[Od.pp,Od.pb,Od.pc];refine Od.Z 4 (.pointer (some ⟨gr,0,none⟩)) 114 rfl rfl hS (fun wx hSw=>?_) ?_
  ·go_simp
  simp only[Od.pp,Od.pb,Od.pc];refine Od.Z 5 (.int .i64 rc) 115 rfl rfl hS (fun wx hSw=>?_) ?_
  ·obtain ⟨c0,c1,c5,e0,e1⟩:=HF.out wx hSw;go_simp
  simp only[Od.pp,Od.pb,Od.pc];refine Od.Z 6 (.bool true) 116 rfl rfl hS (fun wx hSw=>?_) ?_
  ·go_simp
  simp only[Od.pp,Od.pb,Od.pc];refine Od.Z 7 (.bool true) 117 rfl rfl hS (fun wx hSw=>?_) ?_
  ·go_simp
  simp only[Od.pp,Od.pb,Od.pc];refine Od.Z 8 (.bool true) 118 rfl rfl hS (fun wx hSw=>?_) ?_
  ·go_simp
  simp only[Od.pp,Od.pb,Od.pc];refine Od.U 9 119 rfl rfl hS ?_;simp only[Od.pp,Od.pb,Od.pc];refine Od.U 10 120 rfl rfl hS ?_;refine Od.U 11 121 rfl rfl hS ?_;simp only[Od.pp,Od.pb,Od.pc];refine Od.U 12 122 rfl rfl hS ?_;refine Od.U 13 123 rfl rfl hS ?_;simp only[Od.pp,Od.pb,Od.pc];refine Od.U 14 124 rfl rfl hS ?_;refine Od.U 15 125 rfl rfl hS ?_;simp only[Od.pp,Od.pb,Od.pc];refine Od.U 16 126 rfl rfl hS ?_;refine Od.U 17 127 rfl rfl hS ?_;simp only[Od.pp,Od.pb,Od.pc];refine Od.U 18 128 rfl rfl hS ?_;refine Od.U 19 129 rfl rfl hS ?_;simp only[Od.pp,Od.pb,Od.pc];refine Od.U 20 130 rfl rfl hS ?_;refine Od.U 21 131 rfl rfl hS ?_;simp only[Od.pp,Od.pb,Od.pc];refine Od.U 22 132 rfl rfl hS ?_;refine Od.U 23 133 rfl rfl hS ?_;simp only[Od.pp,Od.pb,Od.pc];refine Od.U 24 134 rfl rfl hS ?_;refine Od.U 25 135 rfl rfl hS ?_;simp only[Od.pp,Od.pb,Od.pc];refine Od.U 26 136 rfl rfl hS ?_;refine Od.U 27 137 rfl rfl hS ?_;simp only[Od.pp,Od.pb,Od.pc];refine Od.U 28 138 rfl rfl hS ?_;refine Od.U 29 139 rfl rfl hS ?_;simp only[Od.pp,Od.pb,Od.pc];refine Od.U 30 140 rfl rfl hS ?_;refine Od.U 31 141 rfl rfl hS ?_;simp only[Od.pp,Od.pb,Od.pc];refine Od.U 32 142 rfl rfl hS ?_;refine Od.U 33 143 rfl rfl hS ?_;simp only[Od.pp,Od.pb,Od.pc];refine Od.U 34 144 rfl rfl hS ?_;refine Od.U 35 145 rfl rfl hS ?_;simp only[Od.pp,Od.pb,Od.pc];refine Od.U 36 146 rfl rfl hS ?_;refine Od.U 37 147 rfl rfl hS ?_;simp only[Od.pp,Od.pb,Od.pc];refine Od.U 38 148 rfl rfl hS ?_;refine Od.U 39 149 rfl rfl hS ?_;simp only[Od.pp,Od.pb,Od.pc];refine Od.U 40 150 rfl rfl hS ?_;refine Od.U 41 151 rfl rfl hS ?_;simp only[Od.pp,Od.pb,Od.pc];refine Od.U 42 152 rfl rfl hS ?_;refine Od.U 43 153 rfl rfl hS ?_;simp only[Od.pp,Od.pb,Od.pc];refine Od.U 44 154 rfl rfl hS ?_;refine Od.U 45 155 rfl rfl hS ?_;simp only[Od.pp,Od.pb,Od.pc];refine Od.U 46 156 rfl rfl hS ?_;refine Od.U 47 157 rfl rfl hS ?_;simp only[Od.pp,Od.pb,Od.pc];refine Od.U 48 158 rfl rfl hS ?_;simp only[Od.pp,Od.pb,Od.pc];refine Od.Z 49 (.bool true) 159 rfl rfl hS (fun wx hSw=>?_) ?_
  ·go_simp
  simp only[Od.pp,Od.pb,Od.pc];refine Od.Z 50 (.bool true) 8 rfl rfl hS (fun wx hSw=>?_) ?_
  ·go_simp
  simp only[Od.pp,Od.pb,Od.pc];refine wpAnyH_done (by kernel_rfl) ?_ _
  exact NoPanic.normal (HK.out _ hS)
 subst h0;obtain ⟨i,hi,rfl,hd⟩:=HD rfl rfl;have hi0:(0:Int)<=(i:Int):=by omega
 have hi1:(i:Int)<2:=by omega
 have hi2:¬ ((i:Int)<0):=by omega
 clear HD
 rcases hd with ⟨rfl,hg⟩ | ⟨rfl,c,rfl,hc⟩
 ·have HG:=hide hg;clear hg;refine Od.Z 0 (.pointer (some ⟨gd,0,none⟩)) 110 rfl rfl hS (fun wx hSw=>?_) ?_
  ·go_simp
  simp only[Od.pp,Od.pb,Od.pc];refine Od.Z 1 (.int .i64 9) 111 rfl rfl hS (fun wx hSw=>?_) ?_
  ·obtain ⟨c0,c1,c5,e0,e1⟩:=HF.out wx hSw;go_simp
  simp only[Od.pp,Od.pb,Od.pc];refine Od.Z 2 (.bool false) 112 rfl rfl hS (fun wx hSw=>?_) ?_
  ·go_simp
  simp only[Od.pp,Od.pb,Od.pc];refine Od.Z 3 (.bool false) 113 rfl rfl hS (fun wx hSw=>?_) ?_
  ·go_simp
  simp only[Od.pp,Od.pb,Od.pc];refine Od.Z 4 (.pointer (some ⟨gr,0,none⟩)) 114 rfl rfl hS (fun wx hSw=>?_) ?_
  ·go_simp
  simp only[Od.pp,Od.pb,Od.pc];refine Od.Z 5 (.int .i64 0) 115 rfl rfl hS (fun wx hSw=>?_) ?_
  ·obtain ⟨c0,c1,c5,e0,e1⟩:=HF.out wx hSw;go_simp
  simp only[Od.pp,Od.pb,Od.pc];refine Od.Z 6 (.bool false) 116 rfl rfl hS (fun wx hSw=>?_) ?_
  ·go_simp
  simp only[Od.pp,Od.pb,Od.pc];refine Od.Z 7 (.bool false) 117 rfl rfl hS (fun wx hSw=>?_) ?_
  ·go_simp
  simp only[Od.pp,Od.pb,Od.pc];refine Od.Z 8 (.bool false) 118 rfl rfl hS (fun wx hSw=>?_) ?_
  ·go_simp
  simp only[Od.pp,Od.pb,Od.pc];refine Od.Z 9 (.pointer (some ⟨gd,1,none⟩)) 119 rfl rfl hS (fun wx hSw=>?_) ?_
  ·go_simp
  simp only[Od.pp,Od.pb,Od.pc];refine Od.Z 10 (.int .i64 (i:Int)) 120 rfl rfl hS (fun wx hSw=>?_) ?_
  ·obtain ⟨c0,c1,c5,e0,e1⟩:=HF.out wx hSw;go_simp
  simp only[Od.pp,Od.pb,Od.pc];refine Od.Z 11 (.bool true) 121 rfl rfl hS (fun wx hSw=>?_) ?_
  ·go_simp
  simp only[Od.pp,Od.pb,Od.pc];refine Od.Z 12 (.bool true) 122 rfl rfl hS (fun wx hSw=>?_) ?_
  ·go_simp
  simp only[Od.pp,Od.pb,Od.pc];refine Od.Z 13 (.pointer (some ⟨gd,1,none⟩)) 123 rfl rfl hS (fun wx hSw=>?_) ?_
  ·go_simp
  simp only[Od.pp,Od.pb,Od.pc];refine Od.Z 14 (.int .i64 (i:Int)) 124 rfl rfl hS (fun wx hSw=>?_) ?_
  ·obtain ⟨c0,c1,c5,e0,e1⟩:=HF.out wx hSw;go_simp
  simp only[Od.pp,Od.pb,Od.pc];refine Od.Z 15 (.bool true) 125 rfl rfl hS (fun wx hSw=>?_) ?_
  ·go_simp
  simp only[Od.pp,Od.pb,Od.pc];refine Od.Z 16 (.bool true) 126 rfl rfl hS (fun wx hSw=>?_) ?_
  ·go_simp
  simp only[Od.pp,Od.pb,Od.pc];refine Od.Z 17 (.bool true) 127 rfl rfl hS (fun wx hSw=>?_) ?_
  ·go_simp
  simp only[Od.pp,Od.pb,Od.pc];refine Od.Z 18 (.pointer (some ⟨gd,5,none⟩)) 128 rfl rfl hS (fun wx hSw=>?_) ?_
  ·go_simp
  simp only[Od.pp,Od.pb,Od.pc];refine Od.Z 19 (.bool false) 129 rfl rfl hS (fun wx hSw=>?_) ?_
  ·obtain ⟨c0,c1,c5,e0,e1⟩:=HF.out wx hSw;go_simp
  simp only[Od.pp,Od.pb,Od.pc];refine Od.Z 20 (.bool false) 130 rfl rfl hS (fun wx hSw=>?_) ?_
  ·go_simp
  simp only[Od.pp,Od.pb,Od.pc];refine Od.U 21 131 rfl rfl hS ?_;simp only[Od.pp,Od.pb,Od.pc];refine Od.U 22 132 rfl rfl hS ?_;refine Od.U 23 133 rfl rfl hS ?_;simp only[Od.pp,Od.pb,Od.pc];refine Od.U 24 134 rfl rfl hS ?_;refine Od.U 25 135 rfl rfl hS ?_;simp only[Od.pp,Od.pb,Od.pc];refine Od.U 26 136 rfl rfl hS ?_;refine Od.U 27 137 rfl rfl hS ?_;simp only[Od.pp,Od.pb,Od.pc];refine Od.U 28 138 rfl rfl hS ?_;refine Od.U 29 139 rfl rfl hS ?_;simp only[Od.pp,Od.pb,Od.pc];refine Od.Z 30 (.bool false) 140 rfl rfl hS (fun wx hSw=>?_) ?_
  ·go_simp
  simp only[Od.pp,Od.pb,Od.pc];refine Od.Z 31 (.bool false) 141 rfl rfl hS (fun wx hSw=>?_) ?_
  ·go_simp
  simp only[Od.pp,Od.pb,Od.pc];refine Od.Z 32 (.pointer (some ⟨gd,5,none⟩)) 142 rfl rfl hS (fun wx hSw=>?_) ?_
  ·go_simp
  simp only[Od.pp,Od.pb,Od.pc];refine Od.Z 33 (.bool false) 143 rfl rfl hS (fun wx hSw=>?_) ?_
  ·obtain ⟨c0,c1,c5,e0,e1⟩:=HF.out wx hSw;go_simp
  simp only[Od.pp,Od.pb,Od.pc];refine Od.Z 34 (.bool true) 144 rfl rfl hS (fun wx hSw=>?_) ?_
  ·go_simp
  simp only[Od.pp,Od.pb,Od.pc];refine Od.Z 35 (.bool true) 145 rfl rfl hS (fun wx hSw=>?_) ?_
  ·go_simp
  simp only[Od.pp,Od.pb,Od.pc];refine Od.Z 36 (.pointer (some ⟨gr,1,none⟩)) 146 rfl rfl hS (fun wx hSw=>?_) ?_
  ·go_simp
  simp only[Od.pp,Od.pb,Od.pc];refine Od.Z 37 (.int .i64 n) 147 rfl rfl hS (fun wx hSw=>?_) ?_
  ·obtain ⟨c0,c1,c5,e0,e1⟩:=HF.out wx hSw;go_simp
  simp only[Od.pp,Od.pb,Od.pc];refine Od.Z 38 (.pointer (some ⟨gd,1,none⟩)) 148 rfl rfl hS (fun wx hSw=>?_) ?_
  ·go_simp
  simp only[Od.pp,Od.pb,Od.pc];refine Od.Z 39 (.int .i64 (i:Int)) 149 rfl rfl hS (fun wx hSw=>?_) ?_
  ·obtain ⟨c0,c1,c5,e0,e1⟩:=HF.out wx hSw;go_simp
  simp only[Od.pp,Od.pb,Od.pc];refine Od.Z 40 (.pointer (some ⟨gp,66,none⟩)) 150 rfl rfl hS (fun wx hSw=>?_) ?_
  ·go_simp
  simp only[Od.pp,Od.pb,Od.pc];refine Od.Z 41 (.pointer (some ⟨gp,66+i * 14,none⟩)) 151 rfl rfl hS (fun wx hSw=>?_) ?_
  ·go_simp
  simp only[Od.pp,Od.pb,Od.pc];refine Od.Z 42 (.pointer (some ⟨gp,66+i * 14+6,none⟩)) 152 rfl rfl hS (fun wx hSw=>?_) ?_
  ·go_simp
  simp only[Od.pp,Od.pb,Od.pc];refine Od.Z 43 (.pointer (some ⟨gp,66+i * 14+6+2,none⟩)) 153 rfl rfl hS (fun wx hSw=>?_) ?_
  ·go_simp
  simp only[Od.pp,Od.pb,Od.pc];refine Od.Z 44 (.int .i64 n) 154 rfl rfl hS (fun wx hSw=>?_) ?_
  ·have cg:=HG.out wx hSw;go_simp
  simp only[Od.pp,Od.pb,Od.pc];refine Od.Z 45 (.bool true) 155 rfl rfl hS (fun wx hSw=>?_) ?_
  ·go_simp
  simp only[Od.pp,Od.pb,Od.pc];refine Od.Z 46 (.bool true) 156 rfl rfl hS (fun wx hSw=>?_) ?_
  ·go_simp
  simp only[Od.pp,Od.pb,Od.pc];refine Od.Z 47 (.bool true) 157 rfl rfl hS (fun wx hSw=>?_) ?_
  ·go_simp
  simp only[Od.pp,Od.pb,Od.pc];refine Od.Z 48 (.bool true) 158 rfl rfl hS (fun wx hSw=>?_) ?_
  ·go_simp
  simp only[Od.pp,Od.pb,Od.pc];refine Od.Z 49 (.bool true) 159 rfl rfl hS (fun wx hSw=>?_) ?_
  ·go_simp
  simp only[Od.pp,Od.pb,Od.pc];refine Od.Z 50 (.bool true) 8 rfl rfl hS (fun wx hSw=>?_) ?_
  ·go_simp
  simp only[Od.pp,Od.pb,Od.pc];refine wpAnyH_done (by kernel_rfl) ?_ _
  exact NoPanic.normal (HK.out _ hS)
 ·have HC:=hide hc;clear hc;refine Od.Z 0 (.pointer (some ⟨gd,0,none⟩)) 110 rfl rfl hS (fun wx hSw=>?_) ?_
  ·go_simp
  simp only[Od.pp,Od.pb,Od.pc];refine Od.Z 1 (.int .i64 9) 111 rfl rfl hS (fun wx hSw=>?_) ?_
  ·obtain ⟨c0,c1,c5,e0,e1⟩:=HF.out wx hSw;go_simp
  simp only[Od.pp,Od.pb,Od.pc];refine Od.Z 2 (.bool false) 112 rfl rfl hS (fun wx hSw=>?_) ?_
  ·go_simp
  simp only[Od.pp,Od.pb,Od.pc];refine Od.Z 3 (.bool false) 113 rfl rfl hS (fun wx hSw=>?_) ?_
  ·go_simp
  simp only[Od.pp,Od.pb,Od.pc];refine Od.Z 4 (.pointer (some ⟨gr,0,none⟩)) 114 rfl rfl hS (fun wx hSw=>?_) ?_
  ·go_simp
  simp only[Od.pp,Od.pb,Od.pc];refine Od.Z 5 (.int .i64 0) 115 rfl rfl hS (fun wx hSw=>?_) ?_
  ·obtain ⟨c0,c1,c5,e0,e1⟩:=HF.out wx hSw;go_simp
  simp only[Od.pp,Od.pb,Od.pc];refine Od.Z 6 (.bool false) 116 rfl rfl hS (fun wx hSw=>?_) ?_
  ·go_simp
  simp only[Od.pp,Od.pb,Od.pc];refine Od.Z 7 (.bool false) 117 rfl rfl hS (fun wx hSw=>?_) ?_
  ·go_simp
  simp only[Od.pp,Od.pb,Od.pc];refine Od.Z 8 (.bool false) 118 rfl rfl hS (fun wx hSw=>?_) ?_
  ·go_simp
  simp only[Od.pp,Od.pb,Od.pc];refine Od.Z 9 (.pointer (some ⟨gd,1,none⟩)) 119 rfl rfl hS (fun wx hSw=>?_) ?_
  ·go_simp
  simp only[Od.pp,Od.pb,Od.pc];refine Od.Z 10 (.int .i64 (i:Int)) 120 rfl rfl hS (fun wx hSw=>?_) ?_
  ·obtain ⟨c0,c1,c5,e0,e1⟩:=HF.out wx hSw;go_simp
  simp only[Od.pp,Od.pb,Od.pc];refine Od.Z 11 (.bool true) 121 rfl rfl hS (fun wx hSw=>?_) ?_
  ·go_simp
  simp only[Od.pp,Od.pb,Od.pc];refine Od.Z 12 (.bool true) 122 rfl rfl hS (fun wx hSw=>?_) ?_
  ·go_simp
  simp only[Od.pp,Od.pb,Od.pc];refine Od.Z 13 (.pointer (some ⟨gd,1,none⟩)) 123 rfl rfl hS (fun wx hSw=>?_) ?_
  ·go_simp
  simp only[Od.pp,Od.pb,Od.pc];refine Od.Z 14 (.int .i64 (i:Int)) 124 rfl rfl hS (fun wx hSw=>?_) ?_
  ·obtain ⟨c0,c1,c5,e0,e1⟩:=HF.out wx hSw;go_simp
  simp only[Od.pp,Od.pb,Od.pc];refine Od.Z 15 (.bool true) 125 rfl rfl hS (fun wx hSw=>?_) ?_
  ·go_simp
  simp only[Od.pp,Od.pb,Od.pc];refine Od.Z 16 (.bool true) 126 rfl rfl hS (fun wx hSw=>?_) ?_
  ·go_simp
  simp only[Od.pp,Od.pb,Od.pc];refine Od.Z 17 (.bool true) 127 rfl rfl hS (fun wx hSw=>?_) ?_
  ·go_simp
  simp only[Od.pp,Od.pb,Od.pc];refine Od.Z 18 (.pointer (some ⟨gd,5,none⟩)) 128 rfl rfl hS (fun wx hSw=>?_) ?_
  ·go_simp
  simp only[Od.pp,Od.pb,Od.pc];refine Od.Z 19 (.bool true) 129 rfl rfl hS (fun wx hSw=>?_) ?_
  ·obtain ⟨c0,c1,c5,e0,e1⟩:=HF.out wx hSw;go_simp
  simp only[Od.pp,Od.pb,Od.pc];refine Od.Z 20 (.bool true) 130 rfl rfl hS (fun wx hSw=>?_) ?_
  ·go_simp
  simp only[Od.pp,Od.pb,Od.pc];refine Od.Z 21 (.pointer (some ⟨gr,1,none⟩)) 131 rfl rfl hS (fun wx hSw=>?_) ?_
  ·go_simp
  simp only[Od.pp,Od.pb,Od.pc];refine Od.Z 22 (.int .i64 c.out.g) 132 rfl rfl hS (fun wx hSw=>?_) ?_
  ·obtain ⟨c0,c1,c5,e0,e1⟩:=HF.out wx hSw;go_simp
  simp only[Od.pp,Od.pb,Od.pc];refine Od.Z 23 (.pointer (some ⟨g,0,none⟩)) 133 rfl rfl hS (fun wx hSw=>?_) ?_
  ·go_simp
  simp only[Od.pp,Od.pb,Od.pc];refine Od.Z 24 (.pointer (some ⟨gd,1,none⟩)) 134 rfl rfl hS (fun wx hSw=>?_) ?_
  ·go_simp
  simp only[Od.pp,Od.pb,Od.pc];refine Od.Z 25 (.int .i64 (i:Int)) 135 rfl rfl hS (fun wx hSw=>?_) ?_
  ·obtain ⟨c0,c1,c5,e0,e1⟩:=HF.out wx hSw;go_simp
  simp only[Od.pp,Od.pb,Od.pc];refine wpAnyH_ready (rs:=[26]) (by kernel_rfl) (by simp) ?_
  refine AllReadyH.cons rfl (fun K hK=>?_) AllReadyH.nil;go_simp
  go_at_call 12
  refine (HC.out _ (by exact hS)).mono ?_
  rintro e w1 ⟨v,rfl,hb1⟩;replace hS:=zbt hS hb1;clear hb1;dsimp only;refine hK.out _ _ hS (fun hS=>?_);clear hK K
  try simp only[Od.pp,Od.pb,Od.pc]
  refine Od.Z 27 (.agg #[v.said,v.due,.int .i64 c.out.g,.bool c.out.cl]) 137 rfl rfl hS (fun wx hSw=>?_) ?_
  ·have f9:=j8j c v wx;go_simp
  simp only[Od.pp,Od.pb,Od.pc];refine Od.Z 28 (.int .i64 c.out.g) 138 rfl rfl hS (fun wx hSw=>?_) ?_
  ·have f2:=j8M v.said v.due c.out.g c.out.cl wx;go_simp
  simp only[Od.pp,Od.pb,Od.pc];refine Od.Z 29 (.bool true) 139 rfl rfl hS (fun wx hSw=>?_) ?_
  ·go_simp
  simp only[Od.pp,Od.pb,Od.pc];refine Od.Z 30 (.bool true) 140 rfl rfl hS (fun wx hSw=>?_) ?_
  ·go_simp
  simp only[Od.pp,Od.pb,Od.pc];refine Od.Z 31 (.bool true) 141 rfl rfl hS (fun wx hSw=>?_) ?_
  ·go_simp
  simp only[Od.pp,Od.pb,Od.pc];refine Od.U 32 142 rfl rfl hS ?_;refine Od.U 33 143 rfl rfl hS ?_;simp only[Od.pp,Od.pb,Od.pc];refine Od.U 34 144 rfl rfl hS ?_;refine Od.U 35 145 rfl rfl hS ?_;simp only[Od.pp,Od.pb,Od.pc];refine Od.U 36 146 rfl rfl hS ?_;refine Od.U 37 147 rfl rfl hS ?_;simp only[Od.pp,Od.pb,Od.pc];refine Od.U 38 148 rfl rfl hS ?_;refine Od.U 39 149 rfl rfl hS ?_;simp only[Od.pp,Od.pb,Od.pc];refine Od.U 40 150 rfl rfl hS ?_;refine Od.U 41 151 rfl rfl hS ?_;simp only[Od.pp,Od.pb,Od.pc];refine Od.U 42 152 rfl rfl hS ?_;refine Od.U 43 153 rfl rfl hS ?_;simp only[Od.pp,Od.pb,Od.pc];refine Od.U 44 154 rfl rfl hS ?_;refine Od.U 45 155 rfl rfl hS ?_;simp only[Od.pp,Od.pb,Od.pc];refine Od.U 46 156 rfl rfl hS ?_;simp only[Od.pp,Od.pb,Od.pc];refine Od.Z 47 (.bool true) 157 rfl rfl hS (fun wx hSw=>?_) ?_
  ·go_simp
  simp only[Od.pp,Od.pb,Od.pc];refine Od.Z 48 (.bool true) 158 rfl rfl hS (fun wx hSw=>?_) ?_
  ·go_simp
  simp only[Od.pp,Od.pb,Od.pc];refine Od.Z 49 (.bool true) 159 rfl rfl hS (fun wx hSw=>?_) ?_
  ·go_simp
  simp only[Od.pp,Od.pb,Od.pc];refine Od.Z 50 (.bool true) 8 rfl rfl hS (fun wx hSw=>?_) ?_
  ·go_simp
  simp only[Od.pp,Od.pb,Od.pc];refine wpAnyH_done (by kernel_rfl) ?_ _
  exact NoPanic.normal (HK.out _ hS)
end Wd
namespace Wd
open Go.RowKit Pv Kc
theorem j1T{w:World}{u1 u2:Value}{g:Int}{cl:Bool}(h:(#[u1,u2,.int .i64 g,.bool cl]:Array Value).all (·.oneCell')=true):∃ wa,(z3q (.pointer (some ⟨w.heap.size,0,none⟩)) (.agg #[u1,u2,.int .i64 g,.bool cl])).run prog (w.alloc (.cells Z4' 47))=.ok () wa/\CAt 47 wa w.heap.size #[u1,u2,.int .i64 g,.bool cl]/\Below w.heap.size w wa:=by
 have R0:=CAt.new 47 w Z4';exact ⟨_,run_storeAt_mid (P:=prog) _ _ 0 47 #[u1,u2,.int .i64 g,.bool cl] (R0.there 0 _ (Nat.le_refl _)) (by rw[z4h];rfl) h,R0.z0G rfl,z0b (Nat.le_refl _) _ _ _ (znw w _)⟩
theorem j7H{w:World}{g:Nat}{p:Pr}{v:PrV}(h:CAt 57 w g (prC p v)){k:Nat}(hk:k<2):(z2x (.pointer (some ⟨g,66+k * 14+6,none⟩))).run prog w=.ok (.agg #[(v.l k).said,(v.l k).due,.int .i64 (p.L k).out.g,.bool (p.L k).out.cl]) w:=
 z6A (cs:=lnL (p.L k).out (v.l k).said (v.l k).due) (h.part fun j x hx=>by
  have hj:j<4:=(List.getElem?_eq_some_iff.1 hx).1;have:=z4j (p:=p) (v:=v) k hk (6+j) (by omega)
  rw[← Nat.add_assoc]at this;rw[this]
  rcases (show j=0∨j=1∨j=2∨j=3 by omega) with rfl | rfl | rfl | rfl <;> exact hx) rfl
theorem q8G{ty:TypeId}{w:World}{b:Nat}{s:Nat->Value}(h:CAt ty w b #[s 0,s 1]){k:Nat}(hk:k<2):w.cell? ⟨b,k,none⟩=some (s k):=by
 rcases (show k=0∨k=1 by omega) with rfl | rfl
 ·exact h.cell 0
 ·exact h.cell 1
theorem j7W{ty:TypeId}{w:World}{b:Nat}{cs:Array Value}(h:CAt ty w b cs)(k:Nat):w.frozen? ⟨b,k,none⟩=false:=by
 unfold CAt at h
 simp[World.frozen?,h]
theorem q8y{a b:List ByteArray}(h:a <+: b){j:Nat}(hj:j<a.length):b.getD j ByteArray.empty=a.getD j ByteArray.empty:=by
 obtain ⟨t,rfl⟩:=h;rw[List.getD_eq_getElem?_getD,List.getD_eq_getElem?_getD,List.getElem?_append_left hj]
def TO(B g bs bb gp k:Nat)(w:World)(x0 x:Wo)(vp:PrV)(d:Dd)(rc rn:Int)(wl:World):Prop:=PLk w.heap.size wl gp x.p vp/\(∃ s b,OrS g bs bb k x0 x s b wl)/\StW B g x wl/\CAt 29 wl w.heap.size (ddC d)/\CAt 32 wl (w.heap.size+1) #[.int .i64 rc,.int .i64 rn]/\z2W bs bb w wl
theorem TO.over{B g bs bb gp k:Nat}{w:World}{x0 x:Wo}{vp:PrV}{d:Dd}{rc rn:Int}{wl w':World}(h:TO B g bs bb gp k w x0 x vp d rc rn wl)(hb:Below wl.heap.size wl w'):TO B g bs bb gp k w x0 x vp d rc rn w':=by
 obtain ⟨s,b,ho⟩:=h.2.1;exact ⟨h.1.over hb,⟨s,b,ho.over hb⟩,h.2.2.1.over hb,h.2.2.2.1.over hb,h.2.2.2.2.1.over hb,h.2.2.2.2.2.trans (z2W.of hb)⟩
theorem TO.next{B g bs bb gp k:Nat}{w:World}{x0 x:Wo}{vp:PrV}{d:Dd}{rc rn:Int}{wl:World}(h:TO B g bs bb gp k w x0 x vp d rc rn wl)(hs:bs<B)(hb:bb<B)(hne:bs≠bb)(hBg:B<=g)(hg:g<w.heap.size)(hk:k<2){u v:Value}(hu:z0D (fun c=>g<c) wl u 1 16 (txC (x.p.L k).out.S))(hv:z0D (fun c=>g<c) wl v 1 16 (txC (x.c k).out.S)) :
  TO B g bs bb gp (k+1) w x0 x vp d rc rn ((wl.setCell ⟨bs,k,none⟩ u).setCell ⟨bb,k,none⟩ v):=by
 obtain ⟨s,b,ho⟩:=h.2.1;have a1:Alt bs wl (wl.setCell ⟨bs,k,none⟩ u):=(Alt.refl bs wl).set k u;have a2:Alt bb (wl.setCell ⟨bs,k,none⟩ u) ((wl.setCell ⟨bs,k,none⟩ u).setCell ⟨bb,k,none⟩ v):=(Alt.refl bb _).set k v;refine ⟨(h.1.alt a1 (by omega)).alt a2 (by omega),⟨_,_,ho.next hk hne (by omega) (by omega) hu hv⟩,(h.2.2.1.keep fun c hB hl=>a1.block c hl (by omega)).keep fun c hB hl=>a2.block c hl (by omega),a2.cat (by omega) (a1.cat (by omega) h.2.2.2.1),a2.cat (by omega) (a1.cat (by omega) h.2.2.2.2.1),h.2.2.2.2.2.trans ((z2W.left a1).trans (z2W.right a2))⟩
attribute [local go_sem ↓] z0J z0y z1O z1w z2I z2h
set_option maxRecDepth 100000 in
theorem q1W(B g bs bb:Nat)(x0 x:Wo)(d:Dd)(rc rn:Int)(w:World)(h:StW B g x w)(hs:bs<B)(hb:bb<B)(hne:bs≠bb)(hgw:g<w.heap.size)(ho:∃ s b,OrS g bs bb 0 x0 x s b w)(hp:j8Y x0 x)(hd:d.k=9->rc=0->∃ i:Nat,i<2/\d.c=(i:Int)/\rn=(z1r x i d.b).g) :
  Calls prog 10 #[.pointer (some ⟨g,0,none⟩),.agg (ddC d),.agg #[.int .i64 rc,.int .i64 rn],.pointer (some ⟨bs,0,none⟩),.pointer (some ⟨bb,0,none⟩)] w fun e w'=>e=.returned (.bool true)/\(∃ s b,OrS g bs bb 2 x0 x s b w')/\z2W bs bb w w':=by
 have HPR:=hide (fun (wx:World) (hb:Below w.heap.size w wx)=>q0d B g x wx (h.over hb));have HO:=hide ho;have HST:=hide h;have HPE:=hide hp;have hBg:=h.le;have HB0:Hid (Below w.heap.size w ((w.alloc (.cells (ddC d) 29)).alloc (.cells #[.int .i64 rc,.int .i64 rn] 32))/\CAt 29 ((w.alloc (.cells (ddC d) 29)).alloc (.cells #[.int .i64 rc,.int .i64 rn] 32)) w.heap.size (ddC d)/\CAt 32 ((w.alloc (.cells (ddC d) 29)).alloc (.cells #[.int .i64 rc,.int .i64 rn] 32)) (w.heap.size+1) #[.int .i64 rc,.int .i64 rn]):=⟨(znw w _).alloc (by simp) _,(CAt.new _ w _).alloc _,CAt.new2 _ w _ _⟩
 have HDN:=hide hd;clear h ho hp hd
 go_enter func10,ntmps10
 go_upto_region 1 with fail
 generalize (w.alloc (.cells (ddC d) 29)).alloc (.cells #[.int .i64 rc,.int .i64 rn] 32)=w0 at *
 go_upto_region 2 with (go_at_call 11;refine (HPR.out _ HB0.out.1).mono ?_;rintro e w1 ⟨vp,rfl,I1,b1⟩;have s1:=z7Y I1;have bb1:=b1.trans ((z3G w1 x.p vp).mono b1.size);have bw1:=zbt HB0.out.1 bb1;have HL1:Hid (TO B g bs bb w1.heap.size 0 w x0 x vp d rc rn (j2C w1 x.p vp)):=(by obtain ⟨s,b,ho⟩:=HO.out;exact ⟨PLk.mk (q7R w1 x.p vp) I1 (z3G w1 x.p vp) (by have:=HB0.out.1.size;omega) (by have:=HB0.out.1.size;have:=b1.size;omega),⟨s,b,ho.over bw1⟩,HST.out.over bw1,HB0.out.2.1.over bb1,HB0.out.2.2.over bb1,z2W.of bw1⟩);clear I1 b1 bb1 bw1)
 clear s1 HPR HB0 HO HST;generalize j2C w1 x.p vp=w2 at *;generalize w1.heap.size=gp at *
 go_upto_region 3 with fail
 go_loopw [10] (fun i wl=>∃ (k:Nat),k<=2/\i=.int .i64 (k:Int)/\Hid (TO B g bs bb gp k w x0 x vp d rc rn wl)) (fun i _=>2 - (intOf i).toNat)
 case atStart=>exact ⟨0,by omega,rfl,HL1⟩
 case round =>
  obtain ⟨k,hk,rfl,HRR⟩:=hrel;clear HL1
  by_cases hlt:k<2
  ·have hI1:(k:Int)<2:=by omega
   have hk0:(0:Int)<=(k:Int):=by omega
   have HCk:=hide (z7v B g x wr k hlt HRR.out.2.2.1)
   go_upto_region 6 with (go_at_call 12;refine HCk.out.mono ?_;rintro e w3 ⟨vc,rfl,I3,b3⟩;have s3:=q4j I3;unfold Z22 at s3;have b33:=b3.trans ((z8n w3 (x.c k) vc).mono b3.size);have HL3:=hide (show _/\_ from ⟨HRR.out.over b33,CLk.mk (n:=w.heap.size) (j4V w3 (x.c k) vc) I3 (z8n w3 (x.c k) vc) (by have:=HRR.out.2.2.2.2.2.size;omega) (by have:=HRR.out.2.2.2.2.2.size;have:=b3.size;omega)⟩);clear I3 b3 b33)
   clear s3 HCk HRR;generalize j8c w3 (x.c k) vc=w4 at *;generalize w3.heap.size=gx at *;have l6:=j7H HL3.out.1.1.1 hlt;have hlk:=HL3.out.1.1.2.1.lk k hlt;obtain ⟨wd,s7,R7,b7⟩:=j1T (w:=w4) (z2S hlk.said hlk.due (x.p.L k).out.g (x.p.L k).out.cl);unfold Z4' at s7;have hz6:=HL3.out.1.1.lt;have hgl0:=HL3.out.1.2.2.2.2.2.size;have hgx0:=HL3.out.2.2.2;have HL7:=hide (show _/\_/\_ from ⟨HL3.out.1.over b7,HL3.out.2.over b7,R7⟩);clear R7 b7 hlk HL3
   go_upto_region 7 with fail
   clear l6 s7 hz6;generalize hgl:w4.heap.size=gl at *;clear hgl;obtain ⟨s,b,ho7⟩:=HL7.out.1.2.1;obtain ⟨hr1,hr2⟩:=ho7.s0 k hlt (Nat.le_refl _);have HTS:=hide (fun (wx:World) (hb:Below wd.heap.size wd wx)=>j0U (HL7.out.1.1.2.1.lk k hlt).said hb);have HTC:=hide (fun (wx:World) (hb:Below wd.heap.size wd wx)=>j0U HL7.out.2.1.2.1.said hb);have HT0:=hide (fun (wx:World) (hb:Below wd.heap.size wd wx)=>j0U hr1 hb);have HT1:=hide (fun (wx:World) (hb:Below wd.heap.size wd wx)=>j0U hr2 hb);have hgp:(x.p.L k).out.g<=((x.p.L k).out.S.length:Int):=((z1p _).1 (HL7.out.1.2.2.1.inv.gp.lk k hlt).out).2.2.2.2;have hgc:(x.c k).out.g<=((x.c k).out.S.length:Int):=((z1p _).1 (HL7.out.1.2.2.1.inv.gc k hlt).out).2.2.2.2;obtain ⟨hp1,hp2⟩:=HPE.out k hlt;have HPG:=hide (fun j (hj:j<(x0.p.L k).out.S.length)=>show _/\_ from ⟨q8y hp1 hj,Nat.lt_of_lt_of_le hj hp1.length_le⟩);have HCG:=hide (fun j (hj:j<(x0.c k).out.S.length)=>show _/\_ from ⟨q8y hp2 hj,Nat.lt_of_lt_of_le hj hp2.length_le⟩);clear hp1 hp2 hr1 hr2;obtain ⟨A,C,eA,hlS,-⟩:=HTS.out wd (Below.refl _ _);obtain ⟨A1,C1,eA1,hlC,-⟩:=HTC.out wd (Below.refl _ _);obtain ⟨A2,C2,eA2,hl0,-⟩:=HT0.out wd (Below.refl _ _);obtain ⟨A3,C3,eA3,hl1,-⟩:=HT1.out wd (Below.refl _ _);have HCE:Hid (∀ wx,Below wd.heap.size wd wx->wx.cell? ⟨gl,0,none⟩=some (vp.l k).said/\wx.cell? ⟨gx,14,none⟩=some vc.said/\wx.cell? ⟨bs,k,none⟩=some (s k)/\wx.cell? ⟨bb,k,none⟩=some (b k)/\gl<wx.heap.size/\gx<wx.heap.size/\bs<wx.heap.size/\bb<wx.heap.size):=fun wx hb=>⟨(HL7.out.2.2.over hb).cell 0,(HL7.out.2.1.1.over hb).cell 14,q8G (ho7.cs.over hb) hlt,q8G (ho7.cb.over hb) hlt,(HL7.out.2.2.over hb).lt,(HL7.out.2.1.1.over hb).lt,(ho7.cs.over hb).lt,(ho7.cb.over hb).lt⟩;rw[eA,eA1,eA2,eA3]at HCE;have HE:=hide (show _/\_/\_/\_ from ⟨eA,eA1,eA2,eA3⟩);have HO7:=hide ho7;have q2:wd.cell? ⟨gl,2,none⟩=some (.int .i64 (x.p.L k).out.g):=HL7.out.2.2.cell 2;have q16:wd.cell? ⟨gx,16,none⟩=some (.int .i64 (x.c k).out.g):=HL7.out.2.1.1.cell 16;have hg1:¬ (((x.p.L k).out.S.length:Int)<(x.p.L k).out.g):=by omega
   have hg2:¬ (((x.c k).out.S.length:Int)<(x.c k).out.g):=by omega
   clear eA eA1 eA2 eA3 ho7 hgp hgc;obtain ⟨q0,q14,qs,qb,z1,z2,z3,z4⟩:=HCE.out wd (Below.refl _ _)
   go_upto_region 9 with fail
   clear q2 q16 hg1 hg2
   go_upto_region 10 with fail
   clear q0 q14 qs qb z1 z2 z3 z4
   go_loopw [49] (fun i wl=>∃ (m:Nat),m<=(x0.p.L k).out.S.length/\i=.int .i64 (m:Int)/\Hid (Below wd.heap.size wd wl)) (fun i _=>(x0.p.L k).out.S.length - (intOf i).toNat)
   case atStart=>exact ⟨0,Nat.zero_le _,rfl,Below.refl _ _⟩
   case round =>
    obtain ⟨m,hm,rfl,HB⟩:=hrel
    by_cases hml:m<(x0.p.L k).out.S.length
    ·have hmI:(m:Int)<((x0.p.L k).out.S.length:Int):=by omega
     have hm0:(0:Int)<=(m:Int):=by omega
     obtain ⟨ey,hmS⟩:=HPG.out m hml;have hmI2:(m:Int)<((x.p.L k).out.S.length:Int):=by omega
     obtain ⟨A4,C4,e4,-,f4⟩:=HTS.out wr HB.out;obtain ⟨A5,C5,e5,-,f5⟩:=HT0.out wr HB.out;obtain ⟨b1,o1,r1,c1⟩:=f4 m hmS;obtain ⟨b2,o2,r2,c2⟩:=f5 m hml;rw[HE.out.1]at e4;rw[HE.out.2.2.1]at e5;cases e4;cases e5;subst r1;subst r2;rw[ey]at c1;clear f4 f5 ey;generalize (x0.p.L k).out.S.getD m ByteArray.empty=y0 at *;obtain ⟨q0,-,qs,-,z1,-,z3,-⟩:=HCE.out wr HB.out;have hns:¬ ((x.p.L k).out.S.length:Int)<=(m:Int):=by omega
     go_upto_region 12 with fail
     go_quiet (fail);go_wp2;go_roundw
     case rel=>exact ⟨m+1,by omega,by go_num,HB.out.os,HB.out.tape,HB.out.output,HB.out.size,HB.out.block⟩
     case measure=>simp[intOf];omega
    ·have hmI:¬ (m:Int)<((x0.p.L k).out.S.length:Int):=by omega
     obtain ⟨q0,q14,qs,qb,z1,z2,z3,z4⟩:=HCE.out wr HB.out
     go_upto_region 16 with fail
     clear q0 q14 qs qb z1 z2 z3 z4;clear hmI hm;have HBo:=hide HB.out;clear HB
     go_loopw [76] (fun i wl=>∃ (m:Nat),m<=(x0.c k).out.S.length/\i=.int .i64 (m:Int)/\Hid (Below wd.heap.size wd wl)) (fun i _=>(x0.c k).out.S.length - (intOf i).toNat)
     case atStart=>exact ⟨0,Nat.zero_le _,rfl,HBo⟩
     case round =>
      clear HBo;obtain ⟨m,hm,rfl,HB⟩:=hrel
      by_cases hml:m<(x0.c k).out.S.length
      ·have hmI:(m:Int)<((x0.c k).out.S.length:Int):=by omega
       have hm0:(0:Int)<=(m:Int):=by omega
       obtain ⟨ey,hmS⟩:=HCG.out m hml;have hmI2:(m:Int)<((x.c k).out.S.length:Int):=by omega
       obtain ⟨A4,C4,e4,-,f4⟩:=HTC.out wr HB.out;obtain ⟨A5,C5,e5,-,f5⟩:=HT1.out wr HB.out;obtain ⟨b1,o1,r1,c1⟩:=f4 m hmS;obtain ⟨b2,o2,r2,c2⟩:=f5 m hml;rw[HE.out.2.1]at e4;rw[HE.out.2.2.2]at e5;cases e4;cases e5;subst r1;subst r2;rw[ey]at c1;clear f4 f5 ey;generalize (x0.c k).out.S.getD m ByteArray.empty=y0 at *;obtain ⟨-,q14,-,qb,-,z2,-,z4⟩:=HCE.out wr HB.out;have hns:¬ ((x.c k).out.S.length:Int)<=(m:Int):=by omega
       go_upto_region 18 with fail
       go_quiet (fail);go_wp2;go_roundw
       case rel=>exact ⟨m+1,by omega,by go_num,HB.out.os,HB.out.tape,HB.out.output,HB.out.size,HB.out.block⟩
       case measure=>simp[intOf];omega
      ·have hmI:¬ (m:Int)<((x0.c k).out.S.length:Int):=by omega
       have HN:Hid (TO B g bs bb gp (k+1) w x0 x vp d rc rn ((wr.setCell ⟨bs,k,none⟩ (vp.l k).said).setCell ⟨bb,k,none⟩ vc.said)):=hide ((HL7.out.1.over HB.out).next hs hb hne hBg hgw hlt (((HL7.out.1.1.2.1.lk k hlt).said.over HB.out).mono fun c _ (hc:w.heap.size<=c)=>by omega) ((HL7.out.2.1.2.1.said.over HB.out).mono fun c _ (hc:w.heap.size<=c)=>by omega))
       rw[HE.out.1,HE.out.2.1]at HN;obtain ⟨q0,q14,qs,qb,z1,z2,z3,z4⟩:=HCE.out wr HB.out;have f1:=j7W (HO7.out.over HB.out).cs k;have f2:=j7W (HO7.out.over HB.out).cb k;have hne':bb≠bs:=fun e=>hne e.symm;have n1:gl≠bs:=by omega
       have n2:gl≠bb:=by omega
       have n3:gx≠bs:=by omega
       have n4:gx≠bb:=by omega
       go_upto_region 21 with fail
       clear hmI hm hml HB;clear HL7 HTS HTC HT0 HT1 HPG HCG HCE HE HO7 HPE;go_region;have HN2:=hide (HN.out.over (Below.refl _ _).drew);clear HN q0 q14 qs qb z1 z2 z3 z4 f1 f2;generalize ((wr.setCell ⟨bs,k,none⟩ (.slice A (x.p.L k).out.S.length C)).setCell ⟨bb,k,none⟩ (.slice A1 (x.c k).out.S.length C1)).drew=wz at *;go_wp2
       first | exact ⟨⟨k+1,by omega,by go_num,HN2⟩,by simp[intOf];omega⟩ | ((repeat apply Exists.intro);exact ⟨⟨k+1,by omega,by go_num,HN2⟩,rfl⟩)
  ·obtain rfl:k=2:=by omega
   have d0:wr.cell? ⟨w.heap.size,0,none⟩=some (.int .i64 d.k):=HRR.out.2.2.2.1.cell 0;have d1:wr.cell? ⟨w.heap.size,1,none⟩=some (.int .i64 d.c):=HRR.out.2.2.2.1.cell 1;have d5:wr.cell? ⟨w.heap.size,5,none⟩=some (.bool d.b):=HRR.out.2.2.2.1.cell 5;have r0:wr.cell? ⟨w.heap.size+1,0,none⟩=some (.int .i64 rc):=HRR.out.2.2.2.2.1.cell 0;have r1:wr.cell? ⟨w.heap.size+1,1,none⟩=some (.int .i64 rn):=HRR.out.2.2.2.2.1.cell 1;have zd:=HRR.out.2.2.2.1.lt;have zr:=HRR.out.2.2.2.2.1.lt;have HZ:=hide (show _/\_ from ⟨HRR.out.2.1,HRR.out.2.2.2.2.2⟩)
   have hcell:∀ i,i<2->(prC x.p vp)[66+i * 14+6+2]?=some (.int .i64 (x.p.L i).out.g):=fun i hi=>by
    rcases (show i=0∨i=1 by omega) with rfl | rfl <;> rfl
   go_upto_region 22 with fail
   clear d0 d1 d5 r0 r1 zd zr hs hb hne hgw hBg hk hlt HPE;have HCC:=hide (fun (wx:World) (hb:Below wr.heap.size wr wx) (i:Nat) (hi:i<2)=>z7v B g x wx i hi (HRR.out.2.2.1.over hb));have HCL:=hide (fun (wx:World) (hb:Below wr.heap.size wr wx)=>show wx.cell? ⟨w.heap.size,0,none⟩=some (.int .i64 d.k)/\wx.cell? ⟨w.heap.size,1,none⟩=some (.int .i64 d.c)/\wx.cell? ⟨w.heap.size,5,none⟩=some (.bool d.b)/\wx.cell? ⟨w.heap.size+1,0,none⟩=some (.int .i64 rc)/\wx.cell? ⟨w.heap.size+1,1,none⟩=some (.int .i64 rn) from ⟨(HRR.out.2.2.2.1.over hb).cell 0,(HRR.out.2.2.2.1.over hb).cell 1,(HRR.out.2.2.2.1.over hb).cell 5,(HRR.out.2.2.2.2.1.over hb).cell 0,(HRR.out.2.2.2.2.1.over hb).cell 1⟩);have HCG:=hide (fun (wx:World) (hb:Below wr.heap.size wr wx) (i:Nat) (hi:i<2)=>((HRR.out.1.1.over hb).cell _).trans (hcell i hi));have HZZ:=hide (fun (wx:World) (hb:Below wr.heap.size wr wx)=>show (∃ s b,OrS g bs bb 2 x0 x s b wx)/\z2W bs bb w wx from ⟨(HRR.out.over hb).2.1,(HRR.out.over hb).2.2.2.2.2⟩);clear HRR hcell HZ;refine or22_any g w.heap.size (w.heap.size+1) gp d.k d.c rc rn d.b wr HCL (fun h9 h0=>?_) ?_
   ·obtain ⟨i,hi,hdc,hrn⟩:=HDN.out h9 h0;refine ⟨i,hi,hdc,?_⟩;cases hbk:d.b
    ·rw[hbk]at hrn;exact .inl ⟨rfl,fun wx hb=>(HCG.out wx hb i hi).trans (by rw[hrn];rfl)⟩
    ·rw[hbk]at hrn;exact .inr ⟨rfl,x.c i,hrn,fun wx hb=>(HCC.out wx hb i hi).mono fun e w' ⟨v,he,_,b⟩=>⟨v,he,b⟩⟩
   ·intros
    rename_i wz hb;simp only[Exit.then];apply_assumption;clear HCC HCL HCG HDN;go_wp2;go_ret;exact ⟨rfl,HZZ.out wz hb⟩
end Wd
namespace Wd
open Go.RowKit Pv Kc
theorem z7n.j9o{w w':World}{A:Option Addr}{b off bw:Nat}{l:List Dd}(h:z7n w A b off l)(ha:Alt bw w w')(hb:0<l.length->b≠bw):z7n w' A b off l:=by
 refine ⟨h.adr,h.len,fun i x hx j v hv=>?_⟩;have h0:0<l.length:=by have:=(List.getElem?_eq_some_iff.1 hx).1;omega
 rw[← h.cell i x hx j v hv];exact World.cell?_of_block (w:=w) (a:=⟨b,off+i * 7+j,none⟩) (ha.block b (h.lt h0) (hb h0))
attribute [local go_sem ↓] q0v
theorem q6B(A:Option Addr)(C b off:Nat)(cp:Array Value)(l:List Dd)(w:World)(I:Nat->Nat->Nat->World->Prop)(hD0:z7n w A b off l)
  (hD:∀ B g k wx,I B g k wx->z7n wx A b off l)
  (h0:∀ g w1 w2,Below w.heap.size w w1->StW w1.heap.size g z6t w2->Below w.heap.size w w2->I w1.heap.size g 0 w2)
  (hS:∀ B g k d wr w3 w4,I B g k wr->w.heap.size<=B->l[k]?=some d->StW B g (stW l k) wr->StW B g (stW l (k+1)) w4->Alt g wr w3->Below w3.heap.size w3 w4 ->
   Calls prog 10 (#[.pointer (some ⟨g,0,none⟩),.agg (ddC d),.agg #[.int .i64 (doW (stW l k) d).2.1,.int .i64 (doW (stW l k) d).2.2]] ++ cp) w4 fun e w'=>e=.returned (.bool true)/\StW B g (stW l (k+1)) w'/\I B g (k+1) w') :
  Calls prog 9 #[.slice A l.length C,.func (.func 10) #[] cp] w fun e w'=>∃ B g k,e=.returned (.tuple #[.pointer (some ⟨g,0,none⟩),.bool true])/\I B g k w':=by
 have HA:=hide (z8j w);have HBL:=hide (fun (h:0<l.length)=>hD0.lt h);have HD:=hide hD;have H0:=hide h0;have HSS:=hide hS;clear hD0 hD h0 hS
 go_enter func9,ntmps9
 go_upto_region 3 with (go_at_call 28;refine HA.out.mono ?_;rintro e w1 ⟨rfl,b1⟩;have HB1:=hide b1;clear b1)
 have HN:=hide (z5q w1)
 go_upto_region 4 with (go_at_call 22;refine HN.out.mono ?_;rintro e w2 ⟨g,rfl,h2,b2⟩;have HR0:Hid (StW w1.heap.size g (stW l 0) w2/\I w1.heap.size g 0 w2):=⟨h2,H0.out g w1 w2 HB1.out h2 (zbt HB1.out b2)⟩;have hg1:=HB1.out.size;have hg2:=h2.le;clear h2 b2)
 go_upto_region 5 with fail
 clear HN HA HB1 H0;generalize w1.heap.size=B at *
 go_loopw [7] (fun i wl=>∃ (k:Nat),k<=l.length/\k<=120/\i=.int .i64 (k:Int)/\Hid (StW B g (stW l k) wl/\I B g k wl)) (fun i _=>120 - (intOf i).toNat)
 case atStart=>exact ⟨0,Nat.zero_le _,by omega,rfl,HR0⟩
 case round =>
  obtain ⟨k,hk,hk2,rfl,HRR⟩:=hrel;clear HR0
  by_cases hlt:k<l.length/\k<120
  ·obtain ⟨h1,h2⟩:=hlt;have hI1:(k:Int)<(l.length:Int):=by omega
   have hI2:(k:Int)<120:=by omega
   have hx:l[k]?=some l[k]:=List.getElem?_eq_getElem h1;have hst:=z9c hx;generalize l[k]=d at hx hst;have HST:=hide hst;have HDO:=hide (q1p B g (stW l k) d wr HRR.out.1);have hDr:=HD.out B g k wr HRR.out.2;have ld:=hDr.load hx;have hA:A=some ⟨b,off,none⟩:=hDr.adr (by omega)
   have hbg:b≠g:=by have:=HBL.out (by omega);omega
   have HX:=hide hx;have HDR:=hide hDr;subst hA;clear hst hx hDr
   go_upto_region 8 with (go_at_call 24;refine HDO.out.mono ?_;rintro e w3 ⟨rfl,h3,a3⟩;have HS3:=hide (show _/\_ from ⟨h3,a3⟩);clear h3 a3)
   have hz3:=w3.heap.size;have b4:Below w3.heap.size w3 (w3.alloc (.cells #[.int .i64 (doW (stW l k) d).2.1,.int .i64 (doW (stW l k) d).2.2] 32)):=znw w3 _;have R4:CAt 32 (w3.alloc (.cells #[.int .i64 (doW (stW l k) d).2.1,.int .i64 (doW (stW l k) d).2.2] 32)) w3.heap.size #[.int .i64 (doW (stW l k) d).2.1,.int .i64 (doW (stW l k) d).2.2]:=CAt.new _ w3 _;have S4:=HS3.out.1.over b4;rw[← HST.out]at S4;have HS4:=hide (show _/\_/\_ from ⟨S4,b4,R4⟩);clear S4 R4 b4 ld;have HSX:=hide (HSS.out B g k d wr w3);generalize (doW (stW l k) d).2.1=rc at *;generalize (doW (stW l k) d).2.2=rn at *;generalize w3.alloc (.cells #[.int .i64 rc,.int .i64 rn] 32)=w4 at *;have hd4:Below w4.heap.size w4 w4.drew:=(Below.refl _ w4).drew;have bd:=zbt HS4.out.2.1 hd4;have HT:=hide (HSX.out w4.drew HRR.out.2 hg1 HX.out HRR.out.1 (HS4.out.1.over hd4) HS3.out.2 bd);have ld4:=((HDR.out.j9o HS3.out.2 (fun _=>hbg)).over bd (Nat.le_refl _)).load HX.out;have r0:w4.cell? ⟨w3.heap.size,0,none⟩=some (.int .i64 rc):=HS4.out.2.2.cell 0;have r1:w4.cell? ⟨w3.heap.size,1,none⟩=some (.int .i64 rn):=HS4.out.2.2.cell 1;have hz4:=HS4.out.2.2.lt;clear hd4 bd hz3 HSX HDO
   go_region_with (go_at_call 10;refine HT.out.mono ?_;rintro e w5 ⟨rfl,S5,I5⟩;have HB5:=hide (show _/\_ from ⟨S5,I5⟩);clear S5 I5)
   all_goals (apply_assumption;go_wp2;exact ⟨⟨k+1,by omega,by omega,by go_num,HB5⟩,by simp[intOf];omega⟩)
  ·by_cases h1:k<l.length
   ·obtain rfl:k=120:=by omega
    have hI1:((120:Nat):Int)<(l.length:Int):=by omega
    have hI2:(120:Int)<(l.length:Int):=by omega
    go_wp2;go_ret2
    first | exact ⟨B,g,_,rfl,HRR.out.2⟩ | exact ⟨B,g,rfl,_,HRR.out.2⟩
   ·have hI1:¬ (k:Int)<(l.length:Int):=by omega
    go_wp2;go_ret2
    first | exact ⟨B,g,_,rfl,HRR.out.2⟩ | exact ⟨B,g,rfl,_,HRR.out.2⟩
end Wd
namespace Wd
open Go.RowKit Pv Kc
theorem OrS.to{g bs bb:Nat}{x0 x y:Wo}{s b:Nat->Value}{w:World}(h:OrS g bs bb 0 x0 x s b w):OrS g bs bb 0 x0 y s b w:=⟨h.cs,h.cb,fun _ _ hk=>absurd hk (Nat.not_lt_zero _),h.s0⟩
theorem OrS.fin{g bs bb:Nat}{x0 x:Wo}{s b:Nat->Value}{w:World}(h:OrS g bs bb 2 x0 x s b w):OrS g bs bb 0 x x s b w:=⟨h.cs,h.cb,fun _ _ hk=>absurd hk (Nat.not_lt_zero _),fun i hi _=>h.s1 i hi hi⟩
theorem z2W.also{a b g:Nat}{w wl w':World}(h:z2W a b w wl)(c:Alt g wl w')(hg:w.heap.size<=g):z2W a b w w':=⟨c.os.trans h.os,c.tape.trans h.tape,c.output.trans h.output,Nat.le_trans h.size c.size,fun k hk h1 h2=>(c.block k (Nat.lt_of_lt_of_le hk h.size) (by omega)).trans (h.block k hk h1 h2)⟩
theorem z2W.below{a b n:Nat}{w w':World}(h:z2W a b w w')(ha:n<=a)(hb:n<=b)(hn:n<=w.heap.size):Below n w w':=⟨h.os,h.tape,h.output,h.size,fun k hk=>h.block k (by omega) (by omega) (by omega)⟩
theorem z7n.j9n{w w':World}{A:Option Addr}{b off a c:Nat}{l:List Dd}(h:z7n w A b off l)(ha:z2W a c w w')(hb:0<l.length->b≠a/\b≠c):z7n w' A b off l:=by
 refine ⟨h.adr,h.len,fun i x hx j v hv=>?_⟩;have h0:0<l.length:=by have:=(List.getElem?_eq_some_iff.1 hx).1;omega
 rw[← h.cell i x hx j v hv];exact World.cell?_of_block (w:=w) (a:=⟨b,off+i * 7+j,none⟩) (ha.block b (h.lt h0) (hb h0).1 (hb h0).2)
def Z2:Array Value:=#[.slice none 0 0,.slice none 0 0]
theorem q4K(A:Option Addr)(C b off:Nat)(l:List Dd)(w0:World)(hD:z7n w0 A b off l) :
  Calls prog 9 #[.slice A l.length C,.func (.func 10) #[] #[.pointer (some ⟨w0.heap.size,0,none⟩),.pointer (some ⟨w0.heap.size+1,0,none⟩)]] ((w0.alloc (.cells Z2 24)).alloc (.cells Z2 24)) fun e w'=>∃ g,e=.returned (.tuple #[.pointer (some ⟨g,0,none⟩),.bool true])/\Below w0.heap.size w0 w':=by
 have hb0:Below w0.heap.size w0 ((w0.alloc (.cells Z2 24)).alloc (.cells Z2 24)):=(znw w0 _).alloc (by simp) _
 have c1:CAt 24 ((w0.alloc (.cells Z2 24)).alloc (.cells Z2 24)) w0.heap.size Z2:=(CAt.new _ w0 _).alloc _;have c2:CAt 24 ((w0.alloc (.cells Z2 24)).alloc (.cells Z2 24)) (w0.heap.size+1) Z2:=CAt.new2 _ w0 _ _;have hD1:=hD.over hb0 (Nat.le_refl _);have hlb:=fun h:0<l.length=>hD.lt h;generalize (w0.alloc (.cells Z2 24)).alloc (.cells Z2 24)=w at *;have l1:=c1.lt;have l2:=c2.lt;refine (q6B A C b off #[.pointer (some ⟨w0.heap.size,0,none⟩),.pointer (some ⟨w0.heap.size+1,0,none⟩)] l w (fun _ g k wx=>k<=l.length/\(∃ s b,OrS g w0.heap.size (w0.heap.size+1) 0 (stW l k) (stW l k) s b wx)/\z2W w0.heap.size (w0.heap.size+1) w wx) hD1 ?_ ?_ ?_).mono ?_
 ·rintro B g k wx ⟨-,-,ha⟩;exact hD1.j9n ha fun h=>by have:=hlb h;omega
 ·intro g w1 w2 b1 S b2;refine ⟨Nat.zero_le _,⟨fun _=>.slice none 0 0,fun _=>.slice none 0 0,c1.over b2,c2.over b2,fun i _ hk=>absurd hk (Nat.not_lt_zero _),fun i hi _=>⟨z0D.nil _ _ _ _,z0D.nil _ _ _ _⟩⟩,z2W.of b2⟩
 ·rintro B g k d wr w3 w4 ⟨hk,⟨s,b',ho⟩,ha⟩ hB hx hs hs4 a3 b4;have hk':k<l.length:=(List.getElem?_eq_some_iff.1 hx).1;have hst:=z9c hx;have hg:=hs.le;have ho4:=(ho.alt a3 (Nat.le_refl _) (by omega) (by omega)).over b4
  have hpr:=(j3g hs.inv (j3j l k hk) d).1;have hnx:=fun h1 h2=>j2b (x:=stW l k) (d:=d) h1 h2;rw[← hst]at hpr hnx;refine (q1W B g w0.heap.size (w0.heap.size+1) (stW l k) (stW l (k+1)) d _ _ w4 hs4 (by omega) (by omega) (by omega) hs4.lt ⟨s,b',ho4.to⟩ hpr hnx).mono ?_
  rintro e w' ⟨rfl,⟨s2,b2,h2⟩,a2⟩;refine ⟨rfl,hs4.keep fun c hc hl=>a2.block c hl (by omega) (by omega),hk',⟨s2,b2,h2.fin⟩,((ha.also a3 (by omega)).trans (z2W.of b4)).trans a2⟩
 ·rintro e w' ⟨B,g,k,rfl,-,-,ha⟩;exact ⟨g,rfl,hb0.trans (ha.below (Nat.le_refl _) (by omega) (by omega))⟩
theorem q1h(A:Option Addr)(C b off:Nat)(l:List Dd)(w:World)(hD:z7n w A b off l):Calls prog 3 #[.slice A l.length C] w fun e w'=>e=.returned (.bool true)/\Below w.heap.size w w':=by
 have HP:=hide (q4K A C b off l w hD);clear hD
 go_enter func3,ntmps3
 go_upto_region 2 with fail
 change Code.wp prog _ _ _ ((w.alloc (.cells Z2 24)).alloc (.cells Z2 24))
 go_wp2_with (go_at_call 9;refine HP.out.mono ?_;rintro e w1 ⟨g,rfl,a1⟩;have HA:=hide a1;clear a1)
 go_ret;exact ⟨rfl,HA.out⟩
end Wd
end Go.Proofs.YtmopekkhmhhcaaaGreat
