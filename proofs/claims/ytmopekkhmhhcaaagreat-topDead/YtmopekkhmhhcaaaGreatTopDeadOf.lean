/- Parts of the proof: SC WLY WSA WSP WDP WTD WO2 WPD. -/
import Derived.Test.YtmopekkhmhhcaaaGreatRows
import Derived.Test.YtmopekkhmhhcaaaGreatEK23
import Derived.ChangeOld
set_option maxRecDepth 100000
set_option maxHeartbeats 16000000
namespace Go.Proofs.YtmopekkhmhhcaaaGreat
open Go.Proofs.Tryz
section
open Go.RowKit
theorem j7s:(prog.info? 40).map (·.size)=some 24:=by kernel_rfl
end
namespace Wd
open Go.RowKit Pv Kc
noncomputable def j2C(w:World)(p:Pr)(v:PrV):World:=(w.alloc (.cells zeroCells57 57)).setCells w.heap.size 0 (prC p v).toList
theorem q7R(w:World)(p:Pr)(v:PrV):CAt 57 (j2C w p v) w.heap.size (prC p v):=(CAt.new 57 w zeroCells57).z0G (by rw[z0d];rfl)
theorem z3G(w:World)(p:Pr)(v:PrV):Below w.heap.size w (j2C w p v):=z0b (Nat.le_refl _) _ _ _ (znw w _)
theorem z7Y{P:Nat->Prop}{w:World}{p:Pr}{v:PrV}(h:PIn P w p v):(z6p (.pointer (some ⟨w.heap.size,0,none⟩)) (.agg (prC p v))).run prog (w.alloc (.cells zeroCells57 57))=.ok () (j2C w p v):=z0k (CAt.new _ w _) z0d (z0a p v) (z1c h)
def PLd(w0 w:World)(g:Nat)(p:Pr)(v:PrV):Prop:=CAt 57 w g (prC p v)/\PIn (fun b=>w0.heap.size<=b/\b≠g) w p v/\w0.heap.size<=g/\Below w0.heap.size w0 w
theorem PLd.new{k:Nat}{w0 w:World}{p:Pr}{v:PrV}(h:PIn (fun b=>k<=b) w p v)(hk:w0.heap.size<=k)(hb:Below w0.heap.size w0 w):PLd w0 (j2C w p v) w.heap.size p v:=
 ⟨q7R w p v,((h.mono (P':=fun b=>w0.heap.size<=b/\b≠w.heap.size) fun b hl hp=>⟨by omega,by omega⟩).over (z3G w p v)),hb.size,hb.trans ((z3G w p v).mono hb.size)⟩
theorem PLd.over{w0 w w':World}{g:Nat}{p:Pr}{v:PrV}(h:PLd w0 w g p v)(hb:Below w.heap.size w w'):PLd w0 w' g p v:=
 ⟨h.1.over hb,h.2.1.over hb,h.2.2.1,zbt h.2.2.2 hb⟩
theorem PLd.lt{w0 w:World}{g:Nat}{p:Pr}{v:PrV}(h:PLd w0 w g p v):g<w.heap.size:=h.1.lt
end Wd
namespace Wd
open Go.RowKit Pv
theorem j8z{P:Nat->Prop}{w wx:World}{l:List (Int×Int)}{v:Value}(h:Rep P w v 2 16 (pwC l))(hb:Below w.heap.size w wx):∃ A C,v=.slice A l.length C/\l.length<=140737488351232/\∀ k,k<l.length->∃ b o,A=some ⟨b,o,none⟩/\wx.cell? ⟨b,o+k * 2,none⟩=some (.int .i64 (l.getD k (0,0)).1)/\wx.cell? ⟨b,o+k * 2+1,none⟩=some (.int .i64 (l.getD k (0,0)).2):=by
 obtain ⟨A,C,e,s,-,c,-⟩:=(h.over hb).open (z0c l) (by decide)
 refine ⟨A,C,e,by omega,fun k hk=>?_⟩
 obtain ⟨b,o,ea,-,-,hc⟩:=c (by omega)
 obtain ⟨g1,g2⟩:=z1U l k hk;exact ⟨b,o,ea,hc _ _ g1,by rw[Nat.add_assoc];exact hc _ _ g2⟩
end Wd
namespace Wd
open Go.RowKit Pv
def j2W(v:Value):Sem Value:=Instr.loadAt 38 v
theorem z9X(v:Value):Instr.loadAt 38 v=j2W v:=rfl
def j2T(v:Value):Sem Value:=Instr.loadAt 40 v
theorem q5W(v:Value):Instr.loadAt 40 v=j2T v:=rfl
def j3b(v:Value):Sem Value:=Instr.loadAt 35 v
theorem q6f(v:Value):Instr.loadAt 35 v=j3b v:=rfl
theorem j8w{w:World}{b:Nat}{p:Pr}{v:PrV}(h:CAt 57 w b (prC p v)):w.rangeAt b 2 (bkC p.s.b).toList:=by
 intro j u hv;have hj:j<7:=(List.getElem?_eq_some_iff.1 hv).1;refine z6J h j u ?_;simp only[stC,stL];rw[List.getElem?_append_left (show j<(bkC p.s.b).toList.length from hj)];exact hv
theorem j8J{w:World}{b:Nat}{p:Pr}{v:PrV}(h:CAt 57 w b (prC p v)):w.rangeAt b 9 (vsC p.s.V).toList:=by
 intro j u hv;have hj:j<30:=(List.getElem?_eq_some_iff.1 hv).1
 have:=z6J h (7+j) u (by
  simp only[stC,stL];rw[List.getElem?_append_right (by show 7<=7+j;omega),show 7+j - (bkC p.s.b).toList.length=j from by show 7+j - 7=j;omega,List.getElem?_append_left (show j<(vsC p.s.V).toList.length from hj)]
  exact hv)
 rwa [show 2+(7+j)=9+j by omega]at this
theorem j8n{w:World}{b:Nat}{p:Pr}{v:PrV}(h:CAt 57 w b (prC p v)):w.rangeAt b 39 (shC p.s.S).toList:=by
 intro j u hv;have hj:j<24:=(List.getElem?_eq_some_iff.1 hv).1
 have:=z6J h (37+j) u (by
  simp only[stC,stL]
  rw[List.getElem?_append_right (by show 7<=37+j;omega),show 37+j - (bkC p.s.b).toList.length=30+j from by show 37+j - 7=30+j;omega,
   List.getElem?_append_right (by show 30<=30+j;omega),show 30+j - (vsC p.s.V).toList.length=j from by show 30+j - 30=j;omega,List.getElem?_append_left (show j<(shC p.s.S).toList.length from hj)]
  exact hv)
 rwa [show 2+(37+j)=39+j by omega]at this
theorem q8z{w:World}{b:Nat}{p:Pr}{v:PrV}(h:CAt 57 w b (prC p v)):(w.cell? ⟨b,0,none⟩=some (.int .i64 p.h)/\w.cell? ⟨b,1,none⟩=some (.int .i64 p.t)/\w.cell? ⟨b,63,none⟩=some v.ws/\w.cell? ⟨b,65,none⟩=some v.set/\w.cell? ⟨b,94,none⟩=some (.int .i64 p.ml)/\w.cell? ⟨b,95,none⟩=some (.int .i64 p.mn)/\w.cell? ⟨b,96,none⟩=some v.q)/\(j3b (.pointer (some ⟨b,2,none⟩))).run prog w=.ok (.agg (bkC p.s.b)) w/\(j2W (.pointer (some ⟨b,9,none⟩))).run prog w=.ok (.agg (vsC p.s.V)) w/\(j2T (.pointer (some ⟨b,39,none⟩))).run prog w=.ok (.agg (shC p.s.S)) w:=by
 have h1:=run_loadAt_mid (P:=prog) w b 2 35 _ _ (j8w h) underlying35 rfl (by kernel_rfl)
 have h2:=run_loadAt_mid (P:=prog) w b 9 38 _ _ (j8J h) underlying38 rfl (by rw[q7w];rfl)
 have h3:=run_loadAt_mid (P:=prog) w b 39 40 _ _ (j8n h) underlying40 rfl (by rw[j7s];rfl)
 refine ⟨⟨h.cell 0,h.cell 1,h.cell 63,h.cell 65,h.cell 94,h.cell 95,h.cell 96⟩,?_,?_,?_⟩
 ·change (Instr.loadAt 35 _).run prog w=_
  simpa using h1
 ·change (Instr.loadAt 38 _).run prog w=_
  simpa using h2
 ·change (Instr.loadAt 40 _).run prog w=_
  simpa using h3
attribute [local go_sem ↓] z9X q5W q6f
end Wd
namespace Wd
open Go.RowKit Pv Kc
structure DOk(a b:Vd):Prop where
 d:a.dead=true->b.dead=true
 l:a.lost<=b.lost
 n:a.lost<b.lost->a.dead=false/\b.dead=true
theorem DOk.refl(a:Vd):DOk a a:=⟨id,Int.le_refl _,fun h=>absurd h (Int.lt_irrefl _)⟩
theorem DOk.of{a b:Vd}(h1:b.dead=a.dead)(h2:b.lost=a.lost):DOk a b:=⟨fun h=>h1.trans h,by omega,fun h=>by omega⟩
theorem DOk.trans{a b c:Vd}(h:DOk a b)(k:DOk b c):DOk a c:=by
 refine ⟨fun e=>k.d (h.d e),Int.le_trans h.l k.l,fun e=>?_⟩
 by_cases q:a.lost<b.lost
 ·exact ⟨(h.n q).1,k.d (h.n q).2⟩
 ·have:=h.l;have kn:=k.n (by omega)
  refine ⟨?_,kn.2⟩;cases ha:a.dead
  ·rfl
  ·rw[h.d ha]at kn;exact absurd kn.1 (by simp)
def DV(V W:Nat->Vd):Prop:=∀ i,DOk (V i) (W i)
theorem DV.refl(V:Nat->Vd):DV V V:=fun _=>DOk.refl _
theorem DV.trans{U V W:Nat->Vd}(h:DV U V)(k:DV V W):DV U W:=fun i=>(h i).trans (k i)
theorem DV.set{V:Nat->Vd}{v:Nat}{x:Vd}(h:DOk (V v) x):DV V (z1E V v x):=fun i=>by
 unfold z1E
 split
 ·rename_i e;rw[e];exact h
 ·exact DOk.refl _
theorem j2f(s:St)(d v n:Int):DV s.V (z0N s d v n).1.V:=by
 unfold z0N
 repeat' split
 all_goals first | exact DV.refl _ | exact DV.set (DOk.of rfl rfl)
theorem j0J(s:St)(d v n:Int)(y:Wt):DV s.V (z0O s d v n y).1.V:=by
 unfold z0O
 repeat' split
 all_goals first | exact DV.refl _ | exact DV.set (DOk.of rfl rfl)
theorem q6N(s:St)(v:Int):DV s.V (z1l s v).1.V:=by
 unfold z1l
 split
 ·split
  ·exact DV.refl _
  ·rename_i h
   split
   ·exact DV.set (DOk.of (by simpa using h) rfl)
   ·exact DV.refl _
 ·exact DV.refl _
theorem j2o{s:St}(hg:z0h s=true){v:Nat}(hv:v<6)(hd:(s.V v).dead=false)(h:Int):DV s.V (z8d s v h).V:=by
 have hG:=(z0K s).1 hg;intro i
 by_cases e:i=v
 ·subst e
  have e1:(z8d s i h).V i={ z6l (s.V i) (ptN (s.V i).tok 50) (slN i h 50 s.W) with jail:=true,dead:=true }:=by
   unfold z8d z5r z1G z1E
   simp
  rw[e1];have hp:0<=ptN (s.V i).tok 50:=(j1D (by have:=(z1L _).1 (hG.2.2.2.2.2.1 i hv).1;omega) (by omega)).2.1
  have hs:0<=slN i h 50 s.W:=(q2I (by omega) fun x hx=>(z4K hG.2.2.2.2.1 x hx).2.2.2.2.1).1
  exact ⟨fun _=>rfl,by show (s.V i).lost<=(s.V i).lost+_;omega,fun _=>⟨hd,rfl⟩⟩
 ·have e1:(z8d s v h).V i=s.V i:=by
   unfold z8d z5r z1G z1E
   simp[e]
  rw[e1];exact DOk.refl _
theorem j4J{p:Pr}(hg:z0h p.s=true)(v n:Int):DV p.s.V (z3z p v n).1.s.V:=by
 unfold z3z
 split
 ·split
  ·rename_i hv;have:=z2N.1 hv
   split
   ·split
    ·exact DV.refl _
    ·rename_i hd;exact j2o hg (by omega) (by simpa using hd) _
   ·exact DV.refl _
  ·exact DV.refl _
 ·exact DV.refl _
theorem j4G{p:Pr}(hg:z0h p.s=true)(c:Nat){x:Pkt}(hx:j2B x):DV p.s.V (z1A p c x).1.s.V:=by
 unfold z1A
 split
 ·exact DV.refl _
 ·split
  ·rename_i h4;have hv:=hx.2 (.inr h4)
   split
   ·exact DV.refl _
   ·rename_i hd;exact j2o hg (by omega) (by simpa using hd) _
  ·split
   ·exact DV.refl _
   ·split
    ·exact DV.refl _
    ·exact DV.set (DOk.of rfl rfl)
theorem q2i:∀ (l:List (Int×Pkt)) (z:QS),(∀ a∈l,j2B a.2)->q6C z.p->DV z.p.s.V (l.foldl z1R z).p.s.V
 | [],z,_,_=>DV.refl _
 | a :: l,z,ho,h=>by
  rw[List.foldl_cons]
  have h1:q6C (z1R z a).p:=by
   unfold z1R
   split
   ·exact h
   ·split
    ·exact z9o h _ (ho a List.mem_cons_self)
    ·exact h
  refine DV.trans ?_ (q2i l _ (fun b hb=>ho b (List.mem_cons_of_mem _ hb)) h1);unfold z1R
  split
  ·exact DV.refl _
  ·split
   ·exact j4G h.1 _ (ho a List.mem_cons_self)
   ·exact DV.refl _
theorem q2w(p:Pr)(c:Nat):(z1u p c).s=p.s/\(z1u p c).set=p.set:=by
 unfold z1u
 repeat' split
 all_goals exact ⟨rfl,rfl⟩
theorem j6w{p:Pr}{now:Int}(hok:z0B p=true/\isT now=true/\p.t<=now):(endP p now).1.s.V=(goQ (z0V p now)).p.s.V/\(endP p now).1.set=z6L (endP p now).1.s.V:=by
 unfold endP;rw[if_pos hok];dsimp only;rw[(q2w _ 1).1,(q2w _ 1).2,(q2w _ 0).1,(q2w _ 0).2];exact ⟨rfl,rfl⟩
theorem j5V{p:Pr}(now:Int):DV p.s.V (endP p now).1.s.V:=by
 by_cases hok:z0B p=true/\isT now=true/\p.t<=now
 ·have e:=(j6w hok).1;have h:=q2i p.q ⟨z0V p now,fun _=>false,[]⟩ (fun a ha=>(z9A hok.1 a ha).2) (z8V hok.1 now);have e2:(goQ (z0V p now)).p=(p.q.foldl z1R ⟨z0V p now,fun _=>false,[]⟩).p:=rfl;rw[e,e2];exact h
 ·unfold endP;rw[if_neg hok];exact DV.refl _
theorem j0I(p:Pr)(c:Int):(z0T p c).1.s.V=p.s.V:=by
 unfold z0T
 repeat' split
 all_goals rfl
theorem j4D(p:Pr)(c:Int)(l:List Int):(z3E p c l).1.s.V=p.s.V:=by
 unfold z3E
 repeat' split
 all_goals rfl
theorem q8A(p:Pr)(c:Int):(z0A p c).s.V=p.s.V:=by
 unfold z0A
 split <;> rfl
theorem j2E(x:Wo)(i:Nat)(b:Bool)(l:Ln.Line):(z1T x i b l).p.s.V=x.p.s.V:=by
 unfold z1T
 split <;> rfl
theorem q3s(x:Wo)(i:Nat)(b:Bool)(s:ByteArray):(z1V x i b s).1.p.s.V=x.p.s.V:=by
 unfold z1V
 split
 ·exact j4D _ _ _
 ·rfl
theorem j4l(x:Wo)(i:Nat)(d:Dd):(z5v x i d).1.p.s.V=x.p.s.V:=by
 unfold z5v
 split
 ·dsimp only;unfold z5u
  split <;> rfl
 ·split
  ·dsimp only;unfold z5b
   split <;> rfl
  ·split
   ·unfold q0O
    split
    ·split
     ·dsimp only;rw[j2E,q3s]
     ·exact q3s _ _ _ _
    ·rfl
   ·split
    ·dsimp only;unfold z9D
     split
     ·show (z0A (z1T x i d.b _).p i).s.V=_
      rw[q8A,j2E]
     ·rfl
    ·dsimp only;unfold q2G
     split <;> rfl
theorem j4U{x:Wo}(hs:z0h x.p.s=true)(d:Dd):DV x.p.s.V (z2Z x d).1.p.s.V:=by
 unfold z2Z
 split
 ·dsimp only;unfold atP
  split
  ·show DV _ (z2j x.p d.d d.v d.n).1.s.V
   unfold z2j
   split
   ·exact j2f _ _ _ _
   ·exact DV.refl _
  ·split
   ·show DV _ (z1t x.p d.d d.v d.n x.ck).1.s.V
    unfold z1t
    split
    ·split
     ·exact j0J _ _ _ _ _
     ·exact DV.refl _
    ·exact DV.refl _
   ·split
    ·exact q6N _ _
    ·exact j4J hs _ _
 ·split
  ·unfold z6s
   split <;> exact DV.refl _
  ·split
   ·unfold z5D
    split
    ·exact j5V _
    ·exact DV.refl _
   ·split
    ·unfold z3w
     split
     ·split
      ·show DV _ (z0T x.p d.c).1.s.V
       rw[j0I];exact DV.refl _
      ·exact DV.refl _
     ·exact DV.refl _
    ·split
     ·split
      ·rw[j4l];exact DV.refl _
      ·exact DV.refl _
     ·exact DV.refl _
theorem j8A{x:Wo}(h:Inv x)(d:Dd):DV x.p.s.V (doW x d).1.p.s.V:=by
 unfold doW
 split
 ·exact DV.refl _
 ·dsimp only;exact j4U (x:=z1D x) h.gp.s d
theorem j1G{x:Wo}{d:Dd}(hk:d.k=6)(hc:(doW x d).2.1=0):∀ y∈(doW x d).1.p.set,∀ v:Nat,y.1=(v:Int)->((doW x d).1.p.s.V v).jail=false:=by
 unfold doW at hc ⊢
 split at hc
 ·cases hc
 ·rename_i hn;rw[if_neg hn];dsimp only at hc ⊢;unfold z2Z at hc ⊢;rw[if_neg (by omega),if_neg (by omega),if_pos hk]at hc ⊢
  unfold z5D at hc ⊢
  split at hc
  ·rename_i h0;rw[if_pos h0];dsimp only
   have hok:z0B (z1D x).p=true/\isT (z1D x).ck=true/\(z1D x).p.t<=(z1D x).ck:=by
    by_cases q:z0B (z1D x).p=true/\isT (z1D x).ck=true/\(z1D x).p.t<=(z1D x).ck
    ·exact q
    ·unfold endP at h0;rw[if_neg q]at h0;cases h0
   intro y hy v hv;rw[(j6w hok).2]at hy;obtain ⟨i,-,rfl,-,hj⟩:=j2K _ _ hy;obtain rfl:i=v:=by have:(i:Int)=(v:Int):=hv;omega
   exact hj
  ·rename_i h0;exact absurd hc h0
end Wd
namespace Wd
open Go.RowKit Pv Kc
def q6k(a v:Value):Sem Unit:=Instr.storeAt 38 a v
theorem q4B(a v:Value):Instr.storeAt 38 a v=q6k a v:=rfl
theorem j7p(V:Nat->Vd):(vsC V).all (·.oneCell')=true:=by simp[vsC,Value.oneCell']
theorem j1E{w:World}{b:Nat}{U V:Nat->Vd}(h:CAt 38 w b (vsC U)):(q6k (.pointer (some ⟨b,0,none⟩)) (.agg (vsC V))).run prog w=.ok () (w.setCells b 0 (vsC V).toList)/\CAt 38 (w.setCells b 0 (vsC V).toList) b (vsC V)/\Alt b w (w.setCells b 0 (vsC V).toList):=
 ⟨run_storeAt_mid (P:=prog) _ _ 0 38 (vsC V) (h.there 0 _ (Nat.le_refl _)) (by rw[q7w];rfl) (j7p V),h.z0G rfl,(Alt.refl b w).sets _ _⟩
theorem j1j{w:World}{b:Nat}{V:Nat->Vd}(h:CAt 38 w b (vsC V)){k:Nat}(hk:k<6):w.cell? ⟨b,k * 5+2,none⟩=some (.int .i64 (V k).lost)/\w.cell? ⟨b,k * 5+4,none⟩=some (.bool (V k).dead):=by
 rcases (show k=0∨k=1∨k=2∨k=3∨k=4∨k=5 by omega) with rfl | rfl | rfl | rfl | rfl | rfl <;> exact ⟨h.cell _,h.cell _⟩
def TD(w:World)(gp bw:Nat)(x:Wo)(vp:PrV)(U:Nat->Vd)(d:Dd)(rc rn:Int)(wl:World):Prop:=PLd w wl gp x.p vp/\CAt 38 wl bw (vsC U)/\CAt 29 wl w.heap.size (ddC d)/\CAt 32 wl (w.heap.size+1) #[.int .i64 rc,.int .i64 rn]
theorem TD.over{w:World}{gp bw:Nat}{x:Wo}{vp:PrV}{U:Nat->Vd}{d:Dd}{rc rn:Int}{wl w':World}(h:TD w gp bw x vp U d rc rn wl)(hb:Below wl.heap.size wl w'):TD w gp bw x vp U d rc rn w':=⟨h.1.over hb,h.2.1.over hb,h.2.2.1.over hb,h.2.2.2.over hb⟩
attribute [local go_sem ↓] z0J z0y z9X q4B
set_option maxRecDepth 100000 in
theorem q4X(B g bw:Nat)(x:Wo)(U:Nat->Vd)(d:Dd)(rc rn:Int)(w:World)(h:StW B g x w)(hw:CAt 38 w bw (vsC U))(hv:DV U x.p.s.V)(hs:d.k=6->rc=0->∀ y∈x.p.set,∀ v:Nat,y.1=(v:Int)->(x.p.s.V v).jail=false) :
  Calls prog 13 #[.pointer (some ⟨g,0,none⟩),.agg (ddC d),.agg #[.int .i64 rc,.int .i64 rn],.pointer (some ⟨bw,0,none⟩)] w fun e w'=>e=.returned (.bool true)/\CAt 38 w' bw (vsC x.p.s.V)/\Alt bw w w':=by
 have HP:=hide (fun (wx:World) (hb:Below w.heap.size w wx)=>q0d B g x wx (h.over hb));have HW:=hide hw;have HV:=hide hv;have HS:=hide hs;have hbw:=hw.lt;have HB0:Hid (Below w.heap.size w ((w.alloc (.cells (ddC d) 29)).alloc (.cells #[.int .i64 rc,.int .i64 rn] 32))/\CAt 29 ((w.alloc (.cells (ddC d) 29)).alloc (.cells #[.int .i64 rc,.int .i64 rn] 32)) w.heap.size (ddC d)/\CAt 32 ((w.alloc (.cells (ddC d) 29)).alloc (.cells #[.int .i64 rc,.int .i64 rn] 32)) (w.heap.size+1) #[.int .i64 rc,.int .i64 rn]):=⟨(znw w _).alloc (by simp) _,(CAt.new _ w _).alloc _,CAt.new2 _ w _ _⟩
 clear h hw hv hs
 go_enter func13,ntmps13
 go_upto_region 1 with fail
 generalize (w.alloc (.cells (ddC d) 29)).alloc (.cells #[.int .i64 rc,.int .i64 rn] 32)=w0 at *
 go_upto_region 2 with (go_at_call 11;refine (HP.out _ HB0.out.1).mono ?_;rintro e w1 ⟨vp,rfl,I1,b1⟩;have s1:=z7Y I1;have bb:=b1.trans ((z3G w1 x.p vp).mono b1.size);have HL1:Hid (TD w w1.heap.size bw x vp U d rc rn (j2C w1 x.p vp)):=⟨PLd.new (w0:=w) I1 (by have:=HB0.out.1.size;omega) (zbt HB0.out.1 b1),HW.out.over (zbt HB0.out.1 bb),HB0.out.2.1.over bb,HB0.out.2.2.over bb⟩;clear I1 b1 bb)
 clear s1 HP HB0 HW;generalize j2C w1 x.p vp=w2 at *;generalize w1.heap.size=gp at *;obtain ⟨-,-,l2,-⟩:=q8z HL1.out.1.1;have hz2:=HL1.out.1.lt
 go_upto_region 3 with fail
 clear l2 hz2
 go_loopw [18] (fun i wl=>∃ (k:Nat),k<=6/\i=.int .i64 (k:Int)/\Hid (TD w gp bw x vp U d rc rn wl)) (fun i _=>6 - (intOf i).toNat)
 case atStart=>exact ⟨0,by omega,rfl,HL1⟩
 case round =>
  obtain ⟨k,hk,rfl,HRR⟩:=hrel;clear HL1
  by_cases hlt:k<6
  ·have hI1:(k:Int)<6:=by omega
   have hx1:=fun wx=>ixV wx x.p.s.V k hlt
   go_upto_region 5 with fail
   have b4:Below wr.heap.size wr (wr.alloc (.cells #[.int .i64 (x.p.s.V k).tok,.int .i64 (x.p.s.V k).sh,.int .i64 (x.p.s.V k).lost,.bool (x.p.s.V k).jail,.bool (x.p.s.V k).dead] 37)):=znw wr _;have R4:CAt 37 (wr.alloc (.cells #[.int .i64 (x.p.s.V k).tok,.int .i64 (x.p.s.V k).sh,.int .i64 (x.p.s.V k).lost,.bool (x.p.s.V k).jail,.bool (x.p.s.V k).dead] 37)) wr.heap.size #[.int .i64 (x.p.s.V k).tok,.int .i64 (x.p.s.V k).sh,.int .i64 (x.p.s.V k).lost,.bool (x.p.s.V k).jail,.bool (x.p.s.V k).dead]:=CAt.new _ wr _;have H4:=hide (show _/\_ from ⟨HRR.out.over b4,R4⟩);clear b4 R4 HRR hx1;generalize wr.alloc (.cells #[.int .i64 (x.p.s.V k).tok,.int .i64 (x.p.s.V k).sh,.int .i64 (x.p.s.V k).lost,.bool (x.p.s.V k).jail,.bool (x.p.s.V k).dead] 37)=w4 at *;generalize hgx:wr.heap.size=gx at *;clear hgx;have x2:w4.cell? ⟨gx,2,none⟩=some (.int .i64 (x.p.s.V k).lost):=H4.out.2.cell 2;have x4:w4.cell? ⟨gx,4,none⟩=some (.bool (x.p.s.V k).dead):=H4.out.2.cell 4;obtain ⟨u2,u4⟩:=j1j H4.out.1.2.1 hlt;have hk0:(0:Int)<=(k:Int):=by omega
   have HJ:Hid (∀ wx,Below w4.heap.size w4 wx->wx.cell? ⟨gx,3,none⟩=some (.bool (x.p.s.V k).jail)):=fun wx hb=>(H4.out.2.over hb).cell 3;have HS1:Hid (d.k=6->rc=0->∀ y∈x.p.set,y.1=(k:Int)->(x.p.s.V k).jail=false):=fun h1 h2 y hy he=>HS.out h1 h2 y hy k he;obtain ⟨hd,hl,hn⟩:=HV.out k;generalize (x.p.s.V k).jail=J at *;generalize (x.p.s.V k).lost=Ln at *;generalize (U k).lost=Lo at *;have HT4:=hide H4.out.1;clear H4
   have hcs:((U k).dead=false/\(x.p.s.V k).dead=true/\Lo<Ln)∨((U k).dead=false/\Ln=Lo)∨((U k).dead=true/\(x.p.s.V k).dead=true/\Ln=Lo):=by
    by_cases q:Lo<Ln
    ·exact .inl ⟨(hn q).1,(hn q).2,q⟩
    ·cases e:(U k).dead
     ·exact .inr (.inl ⟨rfl,by omega⟩)
     ·exact .inr (.inr ⟨rfl,hd e,by omega⟩)
   clear hd hl hn
   rcases hcs with ⟨e1,e2,e3⟩ | ⟨e1,rfl⟩ | ⟨e1,e2,rfl⟩
   rw[e1]at u4;rw[e2]at x4;have e4:¬ Ln<Lo:=by omega
   clear e1 e2
   rotate_left
   rw[e1]at u4;clear e1;generalize (x.p.s.V k).dead=D at *
   rotate_left
   rw[e1]at u4;rw[e2]at x4;clear e1 e2
   all_goals
    go_quiet (fail);have b5:=below_drewN (Below.refl w4.heap.size w4) nq;have HT5:=hide (HT4.out.over b5);have HJ5:=hide (fun wx (hb:Below (w4.drewN nq).heap.size (w4.drewN nq) wx)=>HJ.out wx (zbt b5 hb));clear x2 x4 u2 u4 b5 HT4 HJ;generalize w4.drewN nq=w5 at *;have d0:w5.cell? ⟨w.heap.size,0,none⟩=some (.int .i64 d.k):=HT5.out.2.2.1.cell 0;have r0:w5.cell? ⟨w.heap.size+1,0,none⟩=some (.int .i64 rc):=HT5.out.2.2.2.cell 0;have zd:=HT5.out.2.2.1.lt;have zr:=HT5.out.2.2.2.lt
    by_cases h6:d.k=6
    case neg =>
     go_wp2
     first | exact ⟨⟨k+1,by omega,by go_num,HT5⟩,by simp[intOf];omega⟩ | ((repeat apply Exists.intro);exact ⟨⟨k+1,by omega,by go_num,HT5⟩,rfl⟩)
    by_cases hrc:rc=0
    case neg =>
     rw[h6]at d0;go_wp2
     first | exact ⟨⟨k+1,by omega,by go_num,HT5⟩,by simp[intOf];omega⟩ | ((repeat apply Exists.intro);exact ⟨⟨k+1,by omega,by go_num,HT5⟩,rfl⟩)
    rw[h6]at d0;rw[hrc]at r0;have HJS:=hide (HS1.out h6 hrc);clear h6 hrc;have HSE:=hide (fun (wx:World) (hb:Below w5.heap.size w5 wx)=>j8z HT5.out.1.2.1.set hb);obtain ⟨A,C,eA,hle,-⟩:=HSE.out w5 (Below.refl _ _);have p65:w5.cell? ⟨gp,65,none⟩=some vp.set:=HT5.out.1.1.cell 65;have zp:=HT5.out.1.lt;rw[eA]at p65
    go_upto_region 9 with fail
    clear d0 r0 zd zr p65 zp
    go_loopw [71] (fun i wl=>∃ (m:Nat),m<=x.p.set.length/\i=.int .i64 (m:Int)/\Hid (Below w5.heap.size w5 wl)) (fun i _=>x.p.set.length - (intOf i).toNat)
    case atStart=>exact ⟨0,Nat.zero_le _,rfl,Below.refl _ _⟩
    case round =>
     obtain ⟨m,hm,rfl,HB⟩:=hrel
     by_cases hml:m<x.p.set.length
     ·have hmI:(m:Int)<(x.p.set.length:Int):=by omega
      have hm0:(0:Int)<=(m:Int):=by omega
      obtain ⟨A',C',eA',-,f⟩:=HSE.out wr HB.out;rw[eA]at eA';cases eA';obtain ⟨bs,os,rfl,c0,c1⟩:=f m hml;have hy:=HJS.out (x.p.set.getD m (0,0)) (by rw[List.getD_eq_getElem?_getD,List.getElem?_eq_getElem hml];exact List.getElem_mem hml)
      have x3:=HJ5.out _ HB.out;generalize (x.p.set.getD m (0,0)).1=y0 at *;generalize (x.p.set.getD m (0,0)).2=y1 at *;clear f eA;have R9:CAt 68 (wr.alloc (.cells #[.int .i64 y0,.int .i64 y1] 68)) wr.heap.size #[.int .i64 y0,.int .i64 y1]:=CAt.new _ wr _;have b9:Below wr.heap.size wr (wr.alloc (.cells #[.int .i64 y0,.int .i64 y1] 68)):=znw wr _;have HB9:=hide (zbt HB.out b9);have x9:=HJ5.out _ HB9.out;have z9:(wr.alloc (.cells #[.int .i64 y0,.int .i64 y1] 68)).cell? ⟨wr.heap.size,0,none⟩=some (.int .i64 y0):=R9.cell 0;have zz9:=R9.lt;clear R9 b9
      go_upto_region 11 with fail
      clear c0 c1 x3;generalize wr.alloc (.cells #[.int .i64 y0,.int .i64 y1] 68)=w9 at *;generalize hgy:wr.heap.size=gy at *;clear hgy
      by_cases hyk:y0=(k:Int)
      ·subst hyk;rw[hy rfl]at x9;go_wp2
       first | exact ⟨⟨m+1,by omega,by go_num,HB9⟩,by simp[intOf];omega⟩ | ((repeat apply Exists.intro);exact ⟨⟨m+1,by omega,by go_num,HB9⟩,rfl⟩)
      ·go_wp2
       first | exact ⟨⟨m+1,by omega,by go_num,HB9⟩,by simp[intOf];omega⟩ | ((repeat apply Exists.intro);exact ⟨⟨m+1,by omega,by go_num,HB9⟩,rfl⟩)
     ·have hmI:¬ (m:Int)<(x.p.set.length:Int):=by omega
      have HZ:=hide (HT5.out.over HB.out);go_wp2
      first | exact ⟨⟨k+1,by omega,by go_num,HZ⟩,by simp[intOf];omega⟩ | ((repeat apply Exists.intro);exact ⟨⟨k+1,by omega,by go_num,HZ⟩,rfl⟩)
  ·obtain rfl:k=6:=by omega
   obtain ⟨-,-,l5,-⟩:=q8z HRR.out.1.1;have hz5:=HRR.out.1.lt;obtain ⟨s5,C5,A5⟩:=j1E (V:=x.p.s.V) HRR.out.2.1;have hz6:=HRR.out.2.1.lt;have HZ:=hide (show _/\_ from ⟨C5,(Alt.of (g:=bw) HRR.out.1.2.2.2).trans A5⟩);clear C5 A5;go_wp2;go_ret;exact ⟨rfl,HZ.out⟩
end Wd
namespace Wd
open Go.ChangeShapes Go.WideShapes Go.ChangeAt Go.RowKit Go.Deep Pv
def ddL(x:Dd):List Value:=[.int .i64 x.k,.int .i64 x.c,.int .i64 x.d,.int .i64 x.v,.int .i64 x.n,.bool x.b,.bool x.f]
structure z7n(w:World)(ao:Option Addr)(b off:Nat)(l:List Dd):Prop where
 adr:0<l.length->ao=some ⟨b,off,none⟩
 len:l.length<=maxLen
 cell:∀ (i:Nat) (x:Dd),l[i]?=some x->w.rangeAt b (off+i * 7) (ddL x)
theorem z7n.lt{w:World}{ao:Option Addr}{b off:Nat}{l:List Dd}(h:z7n w ao b off l)(h0:0<l.length):b<w.heap.size:=
 World.block_lt_of_cell? w ⟨b,off+0 * 7+0,none⟩ (h.cell 0 l[0] (List.getElem?_eq_getElem h0) 0 _ rfl)
theorem z7n.over{w w':World}{B:Nat}{ao:Option Addr}{b off:Nat}{l:List Dd}(h:z7n w ao b off l)(hb:Below B w w')(hB:w.heap.size<=B):z7n w' ao b off l:=by
 refine ⟨h.adr,h.len,fun i x hx j v hv=>?_⟩;have h0:0<l.length:=by have:=(List.getElem?_eq_some_iff.1 hx).1;omega
 have:=h.lt h0;rw[hb.cell (p:=⟨b,off+i * 7+j,none⟩) (by show b<B;omega)]
 exact h.cell i x hx j v hv
theorem j6W:(prog.info? 29).map (·.size)=some 7:=by kernel_rfl
def j2D(v:Value):Sem Value:=Instr.loadAt 29 v
theorem q0v(v:Value):Instr.loadAt 29 v=j2D v:=rfl
theorem z7n.load{w:World}{ao:Option Addr}{b off:Nat}{l:List Dd}(h:z7n w ao b off l){i:Nat}{x:Dd}(hx:l[i]?=some x):(j2D (.pointer (some ⟨b,off+i * 7,none⟩))).run prog w=.ok (.agg (ddC x)) w:=
 run_loadAt_mid (P:=prog) w b (off+i * 7) 29 (ddL x) _ (h.cell i x hx) underlying29 rfl (by rw[j6W];rfl)
theorem j4s{β:Type}{p:Nat->β->Prop}(d:β){n:Nat}(h:∀ i,i<n->∃ y,p i y):∃ f:Nat->β,∀ i,i<n->p i (f i):=by
 refine ⟨fun i=>if hi:i<n then Classical.choose (h i hi) else d,fun i hi=>?_⟩;simp only[dif_pos hi];exact Classical.choose_spec (h i hi)
theorem cI':prog.cellsOf 3=1:=by kernel_rfl
theorem cT':prog.cellsOf 4=1:=by kernel_rfl
theorem cDd:prog.cellsOf 29=7:=by kernel_rfl
section
variable {H:Type} {enc:TypeId×Value->H} {W:World}
theorem j4j{m:Nat}{l:List Value}{y:DataW H×List MemPlace}(h:DataW.trod enc prog W 0 (fun _=>true) true m 29 l=some y):∃ x:Dd,l=ddL x:=by
 obtain ⟨xs,n,_,_,hl,hxl,hx⟩:=DataW.trod_struct underlying29 h;rw[cDd]at hl
 match l,hl with
 | [a0,a1,a2,a3,a4,a5,a6],_ =>
  match xs,hxl with
  | [y0,y1,y2,y3,y4,y5,y6],_ =>
   have t0:=hx 0 _ rfl;have t1:=hx 1 _ rfl;have t2:=hx 2 _ rfl;have t3:=hx 3 _ rfl;have t4:=hx 4 _ rfl;have t5:=hx 5 _ rfl;have t6:=hx 6 _ rfl
   simp[cI',cT']at t0 t1 t2 t3 t4 t5 t6
   obtain ⟨q0,e0,_⟩:=DataW.trod_int underlying3 t0;obtain ⟨q1,e1,_⟩:=DataW.trod_int underlying3 t1;obtain ⟨q2,e2,_⟩:=DataW.trod_int underlying3 t2;obtain ⟨q3,e3,_⟩:=DataW.trod_int underlying3 t3;obtain ⟨q4,e4,_⟩:=DataW.trod_int underlying3 t4;obtain ⟨q5,e5,_⟩:=DataW.trod_bool underlying4 t5;obtain ⟨q6,e6,_⟩:=DataW.trod_bool underlying4 t6
   simp at e0 e1 e2 e3 e4 e5 e6
   subst e0 e1 e2 e3 e4 e5 e6;exact ⟨⟨q0,q1,q2,q3,q4,q5,q6⟩,rfl⟩
theorem z8z{r:Reach}{b0:Nat}{v:Value}{d:DataW H}{p:List MemPlace}(hv:Value.okWide prog W r b0 22 v)(h:DataW.Trod enc prog W 0 (fun _=>true) true 22 v d p) :
  ∃ (l:List Dd) (ao:Option Addr) (c b off:Nat),v=.slice ao l.length c/\z7n W ao b off l/\(ao=none->c=0)/\l.length<=c:=by
 obtain ⟨a,len,cap,rfl⟩:=okWide_slice underlying22 hv;obtain ⟨fuel,hf⟩:=h
 rcases open_slice underlying22 hf with ⟨h0,_⟩ | ⟨a,len',cap',k,n,D,Pl,hcs,_,hlc,hmx,hk,hy,hx⟩
 ·simp[Value.cells]at h0
  obtain ⟨rfl,rfl,rfl⟩:=h0;exact ⟨[],none,0,0,0,rfl,⟨fun h=>absurd h (by simp),by simp,fun i x h=>by simp at h⟩,fun _=>rfl,Nat.le_refl _⟩
 simp[Value.cells]at hcs
 obtain ⟨rfl,rfl,rfl⟩:=hcs;simp only[if_true]at hk;subst hk;rw[cDd]at hx
 obtain ⟨g,hg⟩:=j4s (n:=k) (p:=fun i (x:Dd)=>W.cells? 0 (a.add (i * 7)) 7=some (ddL x)) ⟨0,0,0,0,0,false,false⟩ (fun i hi=>by
  obtain ⟨cs',h1,h2⟩:=hx i hi;obtain ⟨x,rfl⟩:=j4j h2
  exact ⟨x,h1⟩)
 have hlen:((List.range len).map g).length=len:=by simp
 by_cases h0:len=0
 ·subst h0;exact ⟨[],some a,k,0,0,rfl,⟨fun h=>absurd h (by simp),by simp,fun i x h=>by simp at h⟩,(fun h=>by cases h),Nat.zero_le _⟩
 have hcell:∀ i,i<k->∀ j v,(ddL (g i))[j]?=some v->W.cell? ((a.add (i * 7)).add j)=some v:=fun i hi j v hv=>by
  obtain ⟨_,hlen',hc⟩:=World.cells?_some (hg i hi);have hj:j<7:=by have:=(List.getElem?_eq_some_iff.1 hv).1;simpa [ddL] using this
  rw[hc j hj];exact hv
 obtain ⟨b,off,spot⟩:=a
 have hspot:spot=none:=by
  have:=hcell 0 (by omega) 0 _ rfl
  simpa [Addr.add] using World.cell?_spot this
 subst hspot;refine ⟨(List.range len).map g,some ⟨b,off,none⟩,k,b,off,by rw[hlen],⟨fun _=>rfl,by rw[hlen];omega,fun i x hi=>?_⟩,(fun h=>by cases h),by rw[hlen];omega⟩
 have hil:i<len:=by have:=(List.getElem?_eq_some_iff.1 hi).1;simpa using this
 obtain rfl:g i=x:=by simpa [hil] using hi
 have hc:=hcell i (by omega)
 simp only[Addr.add_lit]at hc;intro j v hv;exact hc j v hv
end
end Wd
namespace Wd
open Go.RowKit Pv Kc
theorem z7n.alt{w w':World}{A:Option Addr}{b off bw:Nat}{l:List Dd}(h:z7n w A b off l)(ha:Alt bw w w')(hb:b≠bw):z7n w' A b off l:=by
 refine ⟨h.adr,h.len,fun i x hx j v hv=>?_⟩;have h0:0<l.length:=by have:=(List.getElem?_eq_some_iff.1 hx).1;omega
 rw[← h.cell i x hx j v hv];exact World.cell?_of_block (w:=w) (a:=⟨b,off+i * 7+j,none⟩) (ha.block b (h.lt h0) hb)
theorem j6d{w wl w':World}{bw g:Nat}(a:Alt bw w wl)(c:Alt g wl w')(hg:w.heap.size<=g):Alt bw w w':=⟨c.os.trans a.os,c.tape.trans a.tape,c.output.trans a.output,Nat.le_trans a.size c.size,fun k hk hn=>(c.block k (Nat.lt_of_lt_of_le hk a.size) (by omega)).trans (a.block k hk hn)⟩
theorem StW.beside{B g bw:Nat}{x:Wo}{w w':World}(h:StW B g x w)(ha:Alt bw w w')(hb:bw<B):StW B g x w':=h.keep fun b hB hl=>ha.block b hl (by omega)
attribute [local go_sem ↓] q0v
theorem q3v(A:Option Addr)(C b off bw:Nat)(l:List Dd)(w:World)(hD:z7n w A b off l)(hbw:b≠bw)(hW:CAt 38 w bw (vsC z6t.p.s.V)) :
  Calls prog 9 #[.slice A l.length C,.func (.func 13) #[] #[.pointer (some ⟨bw,0,none⟩)]] w fun e w'=>∃ g,e=.returned (.tuple #[.pointer (some ⟨g,0,none⟩),.bool true])/\Alt bw w w':=by
 have HA:=hide (z8j w);have HD:=hide (fun (wx:World) (ha:Alt bw w wx)=>hD.alt ha hbw);have HWB:=hide hW;have hbl:=hW.lt;clear hD hW hbw
 go_enter func9,ntmps9
 go_upto_region 3 with (go_at_call 28;refine HA.out.mono ?_;rintro e w1 ⟨rfl,b1⟩;have HB1:=hide b1;clear b1)
 have HN:=hide (z5q w1)
 go_upto_region 4 with (go_at_call 22;refine HN.out.mono ?_;rintro e w2 ⟨g,rfl,h2,b2⟩;have HS2:=hide (show _/\_ from ⟨h2,zbt HB1.out b2⟩);have hg1:=HB1.out.size;have hg2:=h2.le;clear h2 b2)
 go_upto_region 5 with fail
 have HR0:Hid (StW w1.heap.size g (stW l 0) w2/\CAt 38 w2 bw (vsC (stW l 0).p.s.V)/\Alt bw w w2):=⟨HS2.out.1,HWB.out.over HS2.out.2,Alt.of HS2.out.2⟩;clear HS2 HN HA
 go_loopw [7] (fun i wl=>∃ (k:Nat),k<=l.length/\k<=120/\i=.int .i64 (k:Int)/\Hid (StW w1.heap.size g (stW l k) wl/\CAt 38 wl bw (vsC (stW l k).p.s.V)/\Alt bw w wl)) (fun i _=>120 - (intOf i).toNat)
 case atStart=>exact ⟨0,Nat.zero_le _,by omega,rfl,HR0⟩
 case round =>
  obtain ⟨k,hk,hk2,rfl,HRR⟩:=hrel;clear HR0
  by_cases hlt:k<l.length/\k<120
  ·obtain ⟨h1,h2⟩:=hlt;have hI1:(k:Int)<(l.length:Int):=by omega
   have hI2:(k:Int)<120:=by omega
   have hx:l[k]?=some l[k]:=List.getElem?_eq_getElem h1;have hst:=z9c hx;generalize l[k]=d at hx hst;have HST:=hide hst;have HDV:=hide (j8A HRR.out.1.inv d);have HSF:=hide (fun (h1:d.k=6) (h2:(doW (stW l k) d).2.1=0)=>j1G (x:=stW l k) h1 h2);rw[← hst]at HDV HSF;have HDO:=hide (q1p w1.heap.size g (stW l k) d wr HRR.out.1);have ld:=(HD.out wr HRR.out.2.2).load hx;have hA:A=some ⟨b,off,none⟩:=(HD.out wr HRR.out.2.2).adr (by omega)
   have HX:=hide hx;subst hA;clear hst hx
   go_upto_region 8 with (go_at_call 24;refine HDO.out.mono ?_;rintro e w3 ⟨rfl,h3,a3⟩;have HS3:=hide (show _/\_ from ⟨h3,a3⟩);clear h3 a3)
   have S4:=HS3.out.1.over (znw w3 (.cells #[.int .i64 (doW (stW l k) d).2.1,.int .i64 (doW (stW l k) d).2.2] 32));have R4:CAt 32 (w3.alloc (.cells #[.int .i64 (doW (stW l k) d).2.1,.int .i64 (doW (stW l k) d).2.2] 32)) w3.heap.size #[.int .i64 (doW (stW l k) d).2.1,.int .i64 (doW (stW l k) d).2.2]:=CAt.new _ w3 _;have B4:CAt 38 (w3.alloc (.cells #[.int .i64 (doW (stW l k) d).2.1,.int .i64 (doW (stW l k) d).2.2] 32)) bw (vsC (stW l k).p.s.V)/\Alt bw w (w3.alloc (.cells #[.int .i64 (doW (stW l k) d).2.1,.int .i64 (doW (stW l k) d).2.2] 32)):=⟨(HS3.out.2.cat (by omega) HRR.out.2.1).alloc _,(j6d HRR.out.2.2 HS3.out.2 (by omega)).trans (Alt.of (znw w3 _))⟩
   rw[← HST.out]at S4;have HS4:=hide (show _/\_/\_ from ⟨S4,B4,R4⟩);clear S4 B4 R4 HS3 HDO HRR ld;generalize (doW (stW l k) d).2.1=rc at *;generalize (doW (stW l k) d).2.2=rn at *;generalize w3.alloc (.cells #[.int .i64 rc,.int .i64 rn] 32)=w4 at *;have hd4:Below w4.heap.size w4 w4.drew:=(Below.refl _ w4).drew;have HT:=hide (q4X w1.heap.size g bw (stW l (k+1)) _ d rc rn w4.drew (HS4.out.1.over hd4) (HS4.out.2.1.1.over hd4) HDV.out (fun h1 h2 y hy v hv=>HSF.out h1 h2 y hy v hv));have ld4:=(HD.out w4.drew (HS4.out.2.1.2.trans (Alt.of hd4))).load HX.out;have r0:w4.cell? ⟨w3.heap.size,0,none⟩=some (.int .i64 rc):=HS4.out.2.2.cell 0;have r1:w4.cell? ⟨w3.heap.size,1,none⟩=some (.int .i64 rn):=HS4.out.2.2.cell 1;have hz4:=HS4.out.2.2.lt;have HD4:=hide hd4;clear hd4
   go_region_with (go_at_call 13;refine HT.out.mono ?_;rintro e w5 ⟨rfl,c5,a5⟩;have HB5:=hide (show _/\_ from ⟨c5,(Alt.of (g:=bw) HD4.out).trans a5⟩);clear c5 a5)
   all_goals (apply_assumption;go_wp2;exact ⟨⟨k+1,by omega,by omega,by go_num,hide ⟨HS4.out.1.beside HB5.out.2 (by omega),HB5.out.1,HS4.out.2.1.2.trans HB5.out.2⟩⟩,by simp[intOf];omega⟩)
  ·by_cases h1:k<l.length
   ·obtain rfl:k=120:=by omega
    have hI1:((120:Nat):Int)<(l.length:Int):=by omega
    have hI2:(120:Int)<(l.length:Int):=by omega
    go_wp2;go_ret2
    first
     | exact ⟨g,rfl,HRR.out.2.2⟩
     | exact ⟨⟨g,rfl⟩,HRR.out.2.2⟩
   ·have hI1:¬ (k:Int)<(l.length:Int):=by omega
    go_wp2;go_ret2
    first
     | exact ⟨g,rfl,HRR.out.2.2⟩
     | exact ⟨⟨g,rfl⟩,HRR.out.2.2⟩
theorem q4R(A:Option Addr)(C b off:Nat)(l:List Dd)(w:World)(hD:z7n w A b off l):Calls prog 4 #[.slice A l.length C] w fun e w'=>e=.returned (.bool true)/\Below w.heap.size w w':=by
 have HP:Hid (Calls prog 9 #[.slice A l.length C,.func (.func 13) #[] #[.pointer (some ⟨w.heap.size,0,none⟩)]] (w.alloc (.cells (vsC z6t.p.s.V) 38)) fun e w'=>∃ g,e=.returned (.tuple #[.pointer (some ⟨g,0,none⟩),.bool true])/\Alt w.heap.size (w.alloc (.cells (vsC z6t.p.s.V) 38)) w'):=by
  have hb:Below w.heap.size w (w.alloc (.cells (vsC z6t.p.s.V) 38)):=znw w _
  by_cases h0:0<l.length
  ·exact q3v A C b off w.heap.size l _ (hD.over hb (Nat.le_refl _)) (by have:=hD.lt h0;omega) (CAt.new _ w _)
  ·have hl:l=[]:=List.eq_nil_of_length_eq_zero (by omega)
   subst hl;exact q3v A C (w.heap.size+1) 0 w.heap.size [] _ ⟨fun h=>absurd h (by simp),by simp,fun i x h=>by simp at h⟩ (by omega) (CAt.new _ w _)
 clear hD
 go_enter func4,ntmps4
 go_upto_region 2 with fail
 change Code.wp prog _ _ _ (w.alloc (.cells (vsC z6t.p.s.V) 38))
 go_wp2_with (go_at_call 9;refine HP.out.mono ?_;rintro e w1 ⟨g,rfl,a1⟩;have HA:=hide a1;clear a1)
 go_ret;exact ⟨rfl,q6Y (Nat.le_refl _) (znw w _) HA.out⟩
end Wd
end Go.Proofs.YtmopekkhmhhcaaaGreat
