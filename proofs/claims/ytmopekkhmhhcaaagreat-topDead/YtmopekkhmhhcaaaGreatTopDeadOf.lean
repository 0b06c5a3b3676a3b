/- Parts of the proof: WLY WSA WSP WDP WTD WPD. -/
import Derived.Test.YtmopekkhmhhcaaaGreatRows
import Derived.Test.YtmopekkhmhhcaaaGreatEK17
import Derived.ChangeOld
set_option maxRecDepth 100000
set_option maxHeartbeats 16000000
namespace Go.Proofs.YtmopekkhmhhcaaaGreat
open Go.Proofs.Tryz
namespace Wd
open Go.RowKit Pv Kc
noncomputable def j6Y(w:World)(p:Pr)(v:PrV):World:=(w.alloc (.cells zeroCells57 57)).setCells w.heap.size 0 (prC p v).toList
theorem j4b(w:World)(p:Pr)(v:PrV):CAt 57 (j6Y w p v) w.heap.size (prC p v):=(CAt.new 57 w zeroCells57).z0s (by rw[z0d];rfl)
theorem z8A(w:World)(p:Pr)(v:PrV):Below w.heap.size w (j6Y w p v):=z0a (Nat.le_refl _) _ _ _ (znw w _)
theorem q4v{P:Nat->Prop}{w:World}{p:Pr}{v:PrV}(h:PIn P w p v):(z4I (.pointer (some ⟨w.heap.size,0,none⟩)) (.agg (prC p v))).run prog (w.alloc (.cells zeroCells57 57))=.ok () (j6Y w p v):=z0j (CAt.new _ w _) z0d (z0b p v) (z0V h)
def PLd(w0 w:World)(g:Nat)(p:Pr)(v:PrV):Prop:=CAt 57 w g (prC p v)/\PIn (fun b=>w0.heap.size<=b/\b≠g) w p v/\w0.heap.size<=g/\Below w0.heap.size w0 w
theorem PLd.new{k:Nat}{w0 w:World}{p:Pr}{v:PrV}(h:PIn (fun b=>k<=b) w p v)(hk:w0.heap.size<=k)(hb:Below w0.heap.size w0 w):PLd w0 (j6Y w p v) w.heap.size p v:=
 ⟨j4b w p v,((h.mono (P':=fun b=>w0.heap.size<=b/\b≠w.heap.size) fun b hl hp=>⟨by omega,by omega⟩).over (z8A w p v)),hb.size,hb.trans ((z8A w p v).mono hb.size)⟩
end Wd
namespace Wd
open Go.RowKit Pv
theorem j0G{P:Nat->Prop}{w wx:World}{l:List (Int×Int)}{v:Value}(h:Rep P w v 2 16 (pwC l))(hb:Below w.heap.size w wx):∃ A C,v=.slice A l.length C/\l.length<=140737488351232/\∀ k,k<l.length->∃ b o,A=some ⟨b,o,none⟩/\wx.cell? ⟨b,o+k * 2,none⟩=some (.int .i64 (l.getD k (0,0)).1)/\wx.cell? ⟨b,o+k * 2+1,none⟩=some (.int .i64 (l.getD k (0,0)).2):=by
 obtain ⟨A,C,e,s,-,c,-⟩:=(h.over hb).open (z0c l) (by decide)
 refine ⟨A,C,e,by omega,fun k hk=>?_⟩
 obtain ⟨b,o,ea,-,-,hc⟩:=c (by omega)
 obtain ⟨g1,g2⟩:=z1P l k hk;exact ⟨b,o,ea,hc _ _ g1,by rw[Nat.add_assoc];exact hc _ _ g2⟩
end Wd
namespace Wd
open Go.RowKit Pv
def j2z(v:Value):Sem Value:=Instr.loadAt 38 v
theorem q6B(v:Value):Instr.loadAt 38 v=j2z v:=rfl
def j2V(v:Value):Sem Value:=Instr.loadAt 40 v
theorem q8p(v:Value):Instr.loadAt 40 v=j2V v:=rfl
def j2T(v:Value):Sem Value:=Instr.loadAt 35 v
theorem q8Z(v:Value):Instr.loadAt 35 v=j2T v:=rfl
theorem j8t{w:World}{b:Nat}{p:Pr}{v:PrV}(h:CAt 57 w b (prC p v)):w.rangeAt b 2 (bkC p.s.b).toList:=by
 intro j u hv;have hj:j<7:=(List.getElem?_eq_some_iff.1 hv).1;refine z6U h j u ?_;simp only[stC,stL];rw[List.getElem?_append_left (show j<(bkC p.s.b).toList.length from hj)];exact hv
theorem j8z{w:World}{b:Nat}{p:Pr}{v:PrV}(h:CAt 57 w b (prC p v)):w.rangeAt b 9 (vsC p.s.V).toList:=by
 intro j u hv;have hj:j<30:=(List.getElem?_eq_some_iff.1 hv).1
 have:=z6U h (7+j) u (by
  simp only[stC,stL];rw[List.getElem?_append_right (by show 7<=7+j;omega),show 7+j - (bkC p.s.b).toList.length=j from by show 7+j - 7=j;omega,List.getElem?_append_left (show j<(vsC p.s.V).toList.length from hj)]
  exact hv)
 rwa [show 2+(7+j)=9+j by omega]at this
theorem j8f{w:World}{b:Nat}{p:Pr}{v:PrV}(h:CAt 57 w b (prC p v)):w.rangeAt b 39 (shC p.s.S).toList:=by
 intro j u hv;have hj:j<24:=(List.getElem?_eq_some_iff.1 hv).1
 have:=z6U h (37+j) u (by
  simp only[stC,stL]
  rw[List.getElem?_append_right (by show 7<=37+j;omega),show 37+j - (bkC p.s.b).toList.length=30+j from by show 37+j - 7=30+j;omega,
   List.getElem?_append_right (by show 30<=30+j;omega),show 30+j - (vsC p.s.V).toList.length=j from by show 30+j - 30=j;omega,List.getElem?_append_left (show j<(shC p.s.S).toList.length from hj)]
  exact hv)
 rwa [show 2+(37+j)=39+j by omega]at this
theorem z7U{w:World}{b:Nat}{p:Pr}{v:PrV}(h:CAt 57 w b (prC p v)):(w.cell? ⟨b,0,none⟩=some (.int .i64 p.h)/\w.cell? ⟨b,1,none⟩=some (.int .i64 p.t)/\w.cell? ⟨b,63,none⟩=some v.ws/\w.cell? ⟨b,65,none⟩=some v.set/\w.cell? ⟨b,94,none⟩=some (.int .i64 p.ml)/\w.cell? ⟨b,95,none⟩=some (.int .i64 p.mn)/\w.cell? ⟨b,96,none⟩=some v.q)/\(j2T (.pointer (some ⟨b,2,none⟩))).run prog w=.ok (.agg (bkC p.s.b)) w/\(j2z (.pointer (some ⟨b,9,none⟩))).run prog w=.ok (.agg (vsC p.s.V)) w/\(j2V (.pointer (some ⟨b,39,none⟩))).run prog w=.ok (.agg (shC p.s.S)) w:=by
 have h1:=run_loadAt_mid (P:=prog) w b 2 35 _ _ (j8t h) underlying35 rfl (by kernel_rfl)
 have h2:=run_loadAt_mid (P:=prog) w b 9 38 _ _ (j8z h) underlying38 rfl (by rw[j2W];rfl)
 have h3:=run_loadAt_mid (P:=prog) w b 39 40 _ _ (j8f h) underlying40 rfl (by rw[j5S];rfl)
 refine ⟨⟨h.cell 0,h.cell 1,h.cell 63,h.cell 65,h.cell 94,h.cell 95,h.cell 96⟩,?_,?_,?_⟩
 ·change (Instr.loadAt 35 _).run prog w=_
  simpa using h1
 ·change (Instr.loadAt 38 _).run prog w=_
  simpa using h2
 ·change (Instr.loadAt 40 _).run prog w=_
  simpa using h3
attribute [local go_sem ↓] q6B q8p q8Z
end Wd
namespace Wd
open Go.RowKit Pv Kc
structure DOk(a b:Vd):Prop where
 d:a.dead=true->b.dead=true
 l:a.lost<=b.lost
 n:a.lost<b.lost->a.dead=false/\b.dead=true
theorem DOk.refl(a:Vd):DOk a a:=⟨id,Int.le_refl _,fun h=>absurd h (Int.lt_irrefl _)⟩
theorem DOk.of{a b:Vd}(h1:b.dead=a.dead)(h2:b.lost=a.lost):DOk a b:=⟨fun h=>h1.trans h,by omega,fun h=>by omega⟩
theorem DOk.trans{a b c:Vd}(h:DOk a b)(k:DOk b c):DOk a c:=by
 refine ⟨fun e=>k.d (h.d e),Int.le_trans h.l k.l,fun e=>?_⟩
 by_cases q:a.lost<b.lost
 ·exact ⟨(h.n q).1,k.d (h.n q).2⟩
 ·have:=h.l;have kn:=k.n (by omega)
  refine ⟨?_,kn.2⟩;cases ha:a.dead
  ·rfl
  ·rw[h.d ha]at kn;exact absurd kn.1 (by simp)
def DV(V W:Nat->Vd):Prop:=∀ i,DOk (V i) (W i)
theorem DV.refl(V:Nat->Vd):DV V V:=fun _=>DOk.refl _
theorem DV.trans{U V W:Nat->Vd}(h:DV U V)(k:DV V W):DV U W:=fun i=>(h i).trans (k i)
theorem DV.set{V:Nat->Vd}{v:Nat}{x:Vd}(h:DOk (V v) x):DV V (z1J V v x):=fun i=>by
 unfold z1J
 split
 ·rename_i e;rw[e];exact h
 ·exact DOk.refl _
theorem dv_deleg(s:St)(d v n:Int):DV s.V (z0H s d v n).1.V:=by
 unfold z0H
 repeat' split
 all_goals first | exact DV.refl _ | exact DV.set (DOk.of rfl rfl)
theorem dv_undel(s:St)(d v n:Int)(y:Wt):DV s.V (z0R s d v n y).1.V:=by
 unfold z0R
 repeat' split
 all_goals first | exact DV.refl _ | exact DV.set (DOk.of rfl rfl)
theorem dv_unjail(s:St)(v:Int):DV s.V (z1h s v).1.V:=by
 unfold z1h
 split
 ·split
  ·exact DV.refl _
  ·rename_i h
   split
   ·exact DV.set (DOk.of (by simpa using h) rfl)
   ·exact DV.refl _
 ·exact DV.refl _
theorem dv_pun{s:St}(hg:z0k s=true){v:Nat}(hv:v<6)(hd:(s.V v).dead=false)(h:Int):DV s.V (q2l s v h).V:=by
 have hG:=(z0N s).1 hg;intro i
 by_cases e:i=v
 ·subst e
  have e1:(q2l s i h).V i={ z7l (s.V i) (ptN (s.V i).tok 50) (slN i h 50 s.W) with jail:=true,dead:=true }:=by
   unfold q2l z6s z1X z1J
   simp
  rw[e1];have hp:0<=ptN (s.V i).tok 50:=(j4t (by have:=(z1R _).1 (hG.2.2.2.2.2.1 i hv).1;omega) (by omega)).2.1
  have hs:0<=slN i h 50 s.W:=(q9G (by omega) fun x hx=>(z6r hG.2.2.2.2.1 x hx).2.2.2.2.1).1
  exact ⟨fun _=>rfl,by show (s.V i).lost<=(s.V i).lost+_;omega,fun _=>⟨hd,rfl⟩⟩
 ·have e1:(q2l s v h).V i=s.V i:=by
   unfold q2l z6s z1X z1J
   simp[e]
  rw[e1];exact DOk.refl _
theorem dv_evid{p:Pr}(hg:z0k p.s=true)(v n:Int):DV p.s.V (z4m p v n).1.s.V:=by
 unfold z4m
 split
 ·split
  ·rename_i hv;have:=z2N.1 hv
   split
   ·split
    ·exact DV.refl _
    ·rename_i hd;exact dv_pun hg (by omega) (by simpa using hd) _
   ·exact DV.refl _
  ·exact DV.refl _
 ·exact DV.refl _
theorem dv_deal{p:Pr}(hg:z0k p.s=true)(c:Nat){x:Pkt}(hx:j5N x):DV p.s.V (z1C p c x).1.s.V:=by
 unfold z1C
 split
 ·exact DV.refl _
 ·split
  ·rename_i h4;have hv:=hx.2 (.inr h4)
   split
   ·exact DV.refl _
   ·rename_i hd;exact dv_pun hg (by omega) (by simpa using hd) _
  ·split
   ·exact DV.refl _
   ·split
    ·exact DV.refl _
    ·exact DV.set (DOk.of rfl rfl)
theorem dv_steps:∀ (l:List (Int×Pkt)) (z:QS),(∀ a∈l,j5N a.2)->j0d z.p->DV z.p.s.V (l.foldl z2i z).p.s.V
 | [],z,_,_=>DV.refl _
 | a :: l,z,ho,h=>by
  rw[List.foldl_cons]
  have h1:j0d (z2i z a).p:=by
   unfold z2i
   split
   ·exact h
   ·split
    ·exact q3M h _ (ho a List.mem_cons_self)
    ·exact h
  refine DV.trans ?_ (dv_steps l _ (fun b hb=>ho b (List.mem_cons_of_mem _ hb)) h1);unfold z2i
  split
  ·exact DV.refl _
  ·split
   ·exact dv_deal h.1 _ (ho a List.mem_cons_self)
   ·exact DV.refl _
theorem tell_s(p:Pr)(c:Nat):(z1I p c).s=p.s/\(z1I p c).set=p.set:=by
 unfold z1I
 repeat' split
 all_goals exact ⟨rfl,rfl⟩
theorem end_s{p:Pr}{now:Int}(hok:z0J p=true/\isT now=true/\p.t<=now):(endP p now).1.s.V=(goQ (z1g p now)).p.s.V/\(endP p now).1.set=z7Y (endP p now).1.s.V:=by
 unfold endP;rw[if_pos hok];dsimp only;rw[(tell_s _ 1).1,(tell_s _ 1).2,(tell_s _ 0).1,(tell_s _ 0).2];exact ⟨rfl,rfl⟩
theorem dv_end{p:Pr}(now:Int):DV p.s.V (endP p now).1.s.V:=by
 by_cases hok:z0J p=true/\isT now=true/\p.t<=now
 ·have e:=(end_s hok).1;have h:=dv_steps p.q ⟨z1g p now,fun _=>false,[]⟩ (fun a ha=>(q2P hok.1 a ha).2) (q2V hok.1 now);have e2:(goQ (z1g p now)).p=(p.q.foldl z2i ⟨z1g p now,fun _=>false,[]⟩).p:=rfl;rw[e,e2];exact h
 ·unfold endP;rw[if_neg hok];exact DV.refl _
theorem dv_begin(p:Pr)(c:Int):(z1O p c).1.s.V=p.s.V:=by
 unfold z1O
 repeat' split
 all_goals rfl
theorem dv_hear(p:Pr)(c:Int)(l:List Int):(z3z p c l).1.s.V=p.s.V:=by
 unfold z3z
 repeat' split
 all_goals rfl
theorem dv_remove(p:Pr)(c:Int):(z0P p c).s.V=p.s.V:=by
 unfold z0P
 split <;> rfl
theorem dv_put(x:Wo)(i:Nat)(b:Bool)(l:Ln.Line):(z3a x i b l).p.s.V=x.p.s.V:=by
 unfold z3a
 split <;> rfl
theorem dv_hearW(x:Wo)(i:Nat)(b:Bool)(s:ByteArray):(z2y x i b s).1.p.s.V=x.p.s.V:=by
 unfold z2y
 split
 ·exact dv_hear _ _ _
 ·rfl
theorem dv_with(x:Wo)(i:Nat)(d:Dd):(z6Q x i d).1.p.s.V=x.p.s.V:=by
 unfold z6Q
 split
 ·dsimp only;unfold z5M
  split <;> rfl
 ·split
  ·dsimp only;unfold z7O
   split <;> rfl
  ·split
   ·unfold q1t
    split
    ·split
     ·dsimp only;rw[dv_put,dv_hearW]
     ·exact dv_hearW _ _ _ _
    ·rfl
   ·split
    ·dsimp only;unfold q1s
     split
     ·show (z0P (z3a x i d.b _).p i).s.V=_
      rw[dv_remove,dv_put]
     ·rfl
    ·dsimp only;unfold q1B
     split <;> rfl
theorem dv_perf{x:Wo}(hs:z0k x.p.s=true)(d:Dd):DV x.p.s.V (z3o x d).1.p.s.V:=by
 unfold z3o
 split
 ·dsimp only;unfold atP
  split
  ·show DV _ (z2D x.p d.d d.v d.n).1.s.V
   unfold z2D
   split
   ·exact dv_deleg _ _ _ _
   ·exact DV.refl _
  ·split
   ·show DV _ (z1S x.p d.d d.v d.n x.ck).1.s.V
    unfold z1S
    split
    ·split
     ·exact dv_undel _ _ _ _ _
     ·exact DV.refl _
    ·exact DV.refl _
   ·split
    ·exact dv_unjail _ _
    ·exact dv_evid hs _ _
 ·split
  ·unfold z6H
   split <;> exact DV.refl _
  ·split
   ·unfold z7x
    split
    ·exact dv_end _
    ·exact DV.refl _
   ·split
    ·unfold z4j
     split
     ·split
      ·show DV _ (z1O x.p d.c).1.s.V
       rw[dv_begin];exact DV.refl _
      ·exact DV.refl _
     ·exact DV.refl _
    ·split
     ·split
      ·rw[dv_with];exact DV.refl _
      ·exact DV.refl _
     ·exact DV.refl _
theorem dv_do{x:Wo}(h:Inv x)(d:Dd):DV x.p.s.V (doW x d).1.p.s.V:=by
 unfold doW
 split
 ·exact DV.refl _
 ·dsimp only;exact dv_perf (x:=z4c x) h.gp.s d
theorem set_free{x:Wo}{d:Dd}(hk:d.k=6)(hc:(doW x d).2.1=0):∀ y∈(doW x d).1.p.set,∀ v:Nat,y.1=(v:Int)->((doW x d).1.p.s.V v).jail=false:=by
 unfold doW at hc ⊢
 split at hc
 ·cases hc
 ·rename_i hn;rw[if_neg hn];dsimp only at hc ⊢;unfold z3o at hc ⊢;rw[if_neg (by omega),if_neg (by omega),if_pos hk]at hc ⊢
  unfold z7x at hc ⊢
  split at hc
  ·rename_i h0;rw[if_pos h0];dsimp only
   have hok:z0J (z4c x).p=true/\isT (z4c x).ck=true/\(z4c x).p.t<=(z4c x).ck:=by
    by_cases q:z0J (z4c x).p=true/\isT (z4c x).ck=true/\(z4c x).p.t<=(z4c x).ck
    ·exact q
    ·unfold endP at h0;rw[if_neg q]at h0;cases h0
   intro y hy v hv;rw[(end_s hok).2]at hy;obtain ⟨i,-,rfl,-,hj⟩:=j5W _ _ hy;obtain rfl:i=v:=by have:(i:Int)=(v:Int):=hv;omega
   exact hj
  ·rename_i h0;exact absurd hc h0
theorem vs_new:∀ i,z9V.p.s.V i=⟨0,0,0,false,false⟩:=fun _=>rfl
end Wd
namespace Wd
open Go.RowKit Pv Kc
def storeVs(a v:Value):Sem Unit:=Instr.storeAt 38 a v
theorem storeVs_eq(a v:Value):Instr.storeAt 38 a v=storeVs a v:=rfl
theorem vs_one(V:Nat->Vd):(vsC V).all (·.oneCell')=true:=by simp[vsC,Value.oneCell']
theorem vs_store{w:World}{b:Nat}{U V:Nat->Vd}(h:CAt 38 w b (vsC U)):(storeVs (.pointer (some ⟨b,0,none⟩)) (.agg (vsC V))).run prog w=.ok () (w.setCells b 0 (vsC V).toList)/\CAt 38 (w.setCells b 0 (vsC V).toList) b (vsC V)/\Alt b w (w.setCells b 0 (vsC V).toList):=
 ⟨run_storeAt_mid (P:=prog) _ _ 0 38 (vsC V) (h.there 0 _ (Nat.le_refl _)) (by rw[j2W];rfl) (vs_one V),h.z0s rfl,(Alt.refl b w).sets _ _⟩
theorem vs_cells{w:World}{b:Nat}{V:Nat->Vd}(h:CAt 38 w b (vsC V)){k:Nat}(hk:k<6):w.cell? ⟨b,k * 5+2,none⟩=some (.int .i64 (V k).lost)/\w.cell? ⟨b,k * 5+4,none⟩=some (.bool (V k).dead):=by
 rcases (show k=0∨k=1∨k=2∨k=3∨k=4∨k=5 by omega) with rfl | rfl | rfl | rfl | rfl | rfl <;> exact ⟨h.cell _,h.cell _⟩
def TD(w:World)(gp bw:Nat)(x:Wo)(vp:PrV)(U:Nat->Vd)(d:Dd)(rc rn:Int)(wl:World):Prop:=PLd w wl gp x.p vp/\CAt 38 wl bw (vsC U)/\CAt 29 wl w.heap.size (ddC d)/\CAt 32 wl (w.heap.size+1) #[.int .i64 rc,.int .i64 rn]
theorem TD.over{w:World}{gp bw:Nat}{x:Wo}{vp:PrV}{U:Nat->Vd}{d:Dd}{rc rn:Int}{wl w':World}(h:TD w gp bw x vp U d rc rn wl)(hb:Below wl.heap.size wl w'):TD w gp bw x vp U d rc rn w':=⟨h.1.over hb,h.2.1.over hb,h.2.2.1.over hb,h.2.2.2.over hb⟩
attribute [local go_sem ↓] z0F z0v q6B storeVs_eq
set_option maxRecDepth 100000 in
theorem tdead1_any(B g bw:Nat)(x:Wo)(U:Nat->Vd)(d:Dd)(rc rn:Int)(w:World)(h:StW B g x w)(hw:CAt 38 w bw (vsC U))(hv:DV U x.p.s.V)(hs:d.k=6->rc=0->∀ y∈x.p.set,∀ v:Nat,y.1=(v:Int)->(x.p.s.V v).jail=false) :
  Calls prog 13 #[.pointer (some ⟨g,0,none⟩),.agg (ddC d),.agg #[.int .i64 rc,.int .i64 rn],.pointer (some ⟨bw,0,none⟩)] w fun e w'=>e=.returned (.bool true)/\CAt 38 w' bw (vsC x.p.s.V)/\Alt bw w w':=by
 have HP:=hide (fun (wx:World) (hb:Below w.heap.size w wx)=>z3D B g x wx (h.over hb));have HW:=hide hw;have HV:=hide hv;have HS:=hide hs;have hbw:=hw.lt;have HB0:Hid (Below w.heap.size w ((w.alloc (.cells (ddC d) 29)).alloc (.cells #[.int .i64 rc,.int .i64 rn] 32))/\CAt 29 ((w.alloc (.cells (ddC d) 29)).alloc (.cells #[.int .i64 rc,.int .i64 rn] 32)) w.heap.size (ddC d)/\CAt 32 ((w.alloc (.cells (ddC d) 29)).alloc (.cells #[.int .i64 rc,.int .i64 rn] 32)) (w.heap.size+1) #[.int .i64 rc,.int .i64 rn]):=⟨(znw w _).alloc (by simp) _,(CAt.new _ w _).alloc _,CAt.new2 _ w _ _⟩
 clear h hw hv hs
 go_enter func13,ntmps13
 go_upto_region 1 with fail
 generalize (w.alloc (.cells (ddC d) 29)).alloc (.cells #[.int .i64 rc,.int .i64 rn] 32)=w0 at *
 go_upto_region 2 with (go_at_call 11;refine (HP.out _ HB0.out.1).mono ?_;rintro e w1 ⟨vp,rfl,I1,b1⟩;have s1:=q4v I1;have bb:=b1.trans ((z8A w1 x.p vp).mono b1.size);have HL1:Hid (TD w w1.heap.size bw x vp U d rc rn (j6Y w1 x.p vp)):=⟨PLd.new (w0:=w) I1 (by have:=HB0.out.1.size;omega) (zbt HB0.out.1 b1),HW.out.over (zbt HB0.out.1 bb),HB0.out.2.1.over bb,HB0.out.2.2.over bb⟩;clear I1 b1 bb)
 clear s1 HP HB0 HW;generalize j6Y w1 x.p vp=w2 at *;generalize w1.heap.size=gp at *;obtain ⟨-,-,l2,-⟩:=z7U HL1.out.1.1;have hz2:=HL1.out.1.lt
 go_upto_region 3 with fail
 clear l2 hz2
 go_loopw [18] (fun i wl=>∃ (k:Nat),k<=6/\i=.int .i64 (k:Int)/\Hid (TD w gp bw x vp U d rc rn wl)) (fun i _=>6 - (intOf i).toNat)
 case atStart=>exact ⟨0,by omega,rfl,HL1⟩
 case round =>
  obtain ⟨k,hk,rfl,HRR⟩:=hrel;clear HL1
  by_cases hlt:k<6
  ·have hI1:(k:Int)<6:=by omega
   have hx1:=fun wx=>ixV wx x.p.s.V k hlt
   go_upto_region 5 with fail
   have b4:Below wr.heap.size wr (wr.alloc (.cells #[.int .i64 (x.p.s.V k).tok,.int .i64 (x.p.s.V k).sh,.int .i64 (x.p.s.V k).lost,.bool (x.p.s.V k).jail,.bool (x.p.s.V k).dead] 37)):=znw wr _;have R4:CAt 37 (wr.alloc (.cells #[.int .i64 (x.p.s.V k).tok,.int .i64 (x.p.s.V k).sh,.int .i64 (x.p.s.V k).lost,.bool (x.p.s.V k).jail,.bool (x.p.s.V k).dead] 37)) wr.heap.size #[.int .i64 (x.p.s.V k).tok,.int .i64 (x.p.s.V k).sh,.int .i64 (x.p.s.V k).lost,.bool (x.p.s.V k).jail,.bool (x.p.s.V k).dead]:=CAt.new _ wr _;have H4:=hide (show _/\_ from ⟨HRR.out.over b4,R4⟩);clear b4 R4 HRR hx1;generalize wr.alloc (.cells #[.int .i64 (x.p.s.V k).tok,.int .i64 (x.p.s.V k).sh,.int .i64 (x.p.s.V k).lost,.bool (x.p.s.V k).jail,.bool (x.p.s.V k).dead] 37)=w4 at *;generalize hgx:wr.heap.size=gx at *;clear hgx;have x2:w4.cell? ⟨gx,2,none⟩=some (.int .i64 (x.p.s.V k).lost):=H4.out.2.cell 2;have x4:w4.cell? ⟨gx,4,none⟩=some (.bool (x.p.s.V k).dead):=H4.out.2.cell 4;obtain ⟨u2,u4⟩:=vs_cells H4.out.1.2.1 hlt;have hk0:(0:Int)<=(k:Int):=by omega
   have HJ:Hid (∀ wx,Below w4.heap.size w4 wx->wx.cell? ⟨gx,3,none⟩=some (.bool (x.p.s.V k).jail)):=fun wx hb=>(H4.out.2.over hb).cell 3;have HS1:Hid (d.k=6->rc=0->∀ y∈x.p.set,y.1=(k:Int)->(x.p.s.V k).jail=false):=fun h1 h2 y hy he=>HS.out h1 h2 y hy k he;obtain ⟨hd,hl,hn⟩:=HV.out k;generalize (x.p.s.V k).jail=J at *;generalize (x.p.s.V k).lost=Ln at *;generalize (U k).lost=Lo at *;have HT4:=hide H4.out.1;clear H4
   have hcs:((U k).dead=false/\(x.p.s.V k).dead=true/\Lo<Ln)∨((U k).dead=false/\Ln=Lo)∨((U k).dead=true/\(x.p.s.V k).dead=true/\Ln=Lo):=by
    by_cases q:Lo<Ln
    ·exact .inl ⟨(hn q).1,(hn q).2,q⟩
    ·cases e:(U k).dead
     ·exact .inr (.inl ⟨rfl,by omega⟩)
     ·exact .inr (.inr ⟨rfl,hd e,by omega⟩)
   clear hd hl hn
   rcases hcs with ⟨e1,e2,e3⟩ | ⟨e1,rfl⟩ | ⟨e1,e2,rfl⟩
   rw[e1]at u4;rw[e2]at x4;have e4:¬ Ln<Lo:=by omega
   clear e1 e2
   rotate_left
   rw[e1]at u4;clear e1;generalize (x.p.s.V k).dead=D at *
   rotate_left
   rw[e1]at u4;rw[e2]at x4;clear e1 e2
   all_goals
    go_quiet (fail);have b5:=below_drewN (Below.refl w4.heap.size w4) nq;have HT5:=hide (HT4.out.over b5);have HJ5:=hide (fun wx (hb:Below (w4.drewN nq).heap.size (w4.drewN nq) wx)=>HJ.out wx (zbt b5 hb));clear x2 x4 u2 u4 b5 HT4 HJ;generalize w4.drewN nq=w5 at *;have d0:w5.cell? ⟨w.heap.size,0,none⟩=some (.int .i64 d.k):=HT5.out.2.2.1.cell 0;have r0:w5.cell? ⟨w.heap.size+1,0,none⟩=some (.int .i64 rc):=HT5.out.2.2.2.cell 0;have zd:=HT5.out.2.2.1.lt;have zr:=HT5.out.2.2.2.lt
    by_cases h6:d.k=6
    case neg =>
     go_wp2
     first | exact ⟨⟨k+1,by omega,by go_num,HT5⟩,by simp[intOf];omega⟩ | ((repeat apply Exists.intro);exact ⟨⟨k+1,by omega,by go_num,HT5⟩,rfl⟩)
    by_cases hrc:rc=0
    case neg =>
     rw[h6]at d0;go_wp2
     first | exact ⟨⟨k+1,by omega,by go_num,HT5⟩,by simp[intOf];omega⟩ | ((repeat apply Exists.intro);exact ⟨⟨k+1,by omega,by go_num,HT5⟩,rfl⟩)
    rw[h6]at d0;rw[hrc]at r0;have HJS:=hide (HS1.out h6 hrc);clear h6 hrc;have HSE:=hide (fun (wx:World) (hb:Below w5.heap.size w5 wx)=>j0G HT5.out.1.2.1.set hb);obtain ⟨A,C,eA,hle,-⟩:=HSE.out w5 (Below.refl _ _);have p65:w5.cell? ⟨gp,65,none⟩=some vp.set:=HT5.out.1.1.cell 65;have zp:=HT5.out.1.lt;rw[eA]at p65
    go_upto_region 9 with fail
    clear d0 r0 zd zr p65 zp
    go_loopw [71] (fun i wl=>∃ (m:Nat),m<=x.p.set.length/\i=.int .i64 (m:Int)/\Hid (Below w5.heap.size w5 wl)) (fun i _=>x.p.set.length - (intOf i).toNat)
    case atStart=>exact ⟨0,Nat.zero_le _,rfl,Below.refl _ _⟩
    case round =>
     obtain ⟨m,hm,rfl,HB⟩:=hrel
     by_cases hml:m<x.p.set.length
     ·have hmI:(m:Int)<(x.p.set.length:Int):=by omega
      have hm0:(0:Int)<=(m:Int):=by omega
      obtain ⟨A',C',eA',-,f⟩:=HSE.out wr HB.out;rw[eA]at eA';cases eA';obtain ⟨bs,os,rfl,c0,c1⟩:=f m hml;have hy:=HJS.out (x.p.set.getD m (0,0)) (by rw[List.getD_eq_getElem?_getD,List.getElem?_eq_getElem hml];exact List.getElem_mem hml)
      have x3:=HJ5.out _ HB.out;generalize (x.p.set.getD m (0,0)).1=y0 at *;generalize (x.p.set.getD m (0,0)).2=y1 at *;clear f eA;have R9:CAt 68 (wr.alloc (.cells #[.int .i64 y0,.int .i64 y1] 68)) wr.heap.size #[.int .i64 y0,.int .i64 y1]:=CAt.new _ wr _;have b9:Below wr.heap.size wr (wr.alloc (.cells #[.int .i64 y0,.int .i64 y1] 68)):=znw wr _;have HB9:=hide (zbt HB.out b9);have x9:=HJ5.out _ HB9.out;have z9:(wr.alloc (.cells #[.int .i64 y0,.int .i64 y1] 68)).cell? ⟨wr.heap.size,0,none⟩=some (.int .i64 y0):=R9.cell 0;have zz9:=R9.lt;clear R9 b9
      go_upto_region 11 with fail
      clear c0 c1 x3;generalize wr.alloc (.cells #[.int .i64 y0,.int .i64 y1] 68)=w9 at *;generalize hgy:wr.heap.size=gy at *;clear hgy
      by_cases hyk:y0=(k:Int)
      ·subst hyk;rw[hy rfl]at x9;go_wp2
       first | exact ⟨⟨m+1,by omega,by go_num,HB9⟩,by simp[intOf];omega⟩ | ((repeat apply Exists.intro);exact ⟨⟨m+1,by omega,by go_num,HB9⟩,rfl⟩)
      ·go_wp2
       first | exact ⟨⟨m+1,by omega,by go_num,HB9⟩,by simp[intOf];omega⟩ | ((repeat apply Exists.intro);exact ⟨⟨m+1,by omega,by go_num,HB9⟩,rfl⟩)
     ·have hmI:¬ (m:Int)<(x.p.set.length:Int):=by omega
      have HZ:=hide (HT5.out.over HB.out);go_wp2
      first | exact ⟨⟨k+1,by omega,by go_num,HZ⟩,by simp[intOf];omega⟩ | ((repeat apply Exists.intro);exact ⟨⟨k+1,by omega,by go_num,HZ⟩,rfl⟩)
  ·obtain rfl:k=6:=by omega
   obtain ⟨-,-,l5,-⟩:=z7U HRR.out.1.1;have hz5:=HRR.out.1.lt;obtain ⟨s5,C5,A5⟩:=vs_store (V:=x.p.s.V) HRR.out.2.1;have hz6:=HRR.out.2.1.lt;have HZ:=hide (show _/\_ from ⟨C5,(Alt.of (g:=bw) HRR.out.1.2.2.2).trans A5⟩);clear C5 A5;go_wp2;go_ret;exact ⟨rfl,HZ.out⟩
end Wd
namespace Wd
open Go.RowKit Pv Kc
theorem q2A.alt{w w':World}{A:Option Addr}{b off bw:Nat}{l:List Dd}(h:q2A w A b off l)(ha:Alt bw w w')(hb:b≠bw):q2A w' A b off l:=by
 refine ⟨h.adr,h.len,fun i x hx j v hv=>?_⟩;have h0:0<l.length:=by have:=(List.getElem?_eq_some_iff.1 hx).1;omega
 rw[← h.cell i x hx j v hv];exact World.cell?_of_block (w:=w) (a:=⟨b,off+i * 7+j,none⟩) (ha.block b (h.lt h0) hb)
theorem alt_do{w wl w':World}{bw g:Nat}(a:Alt bw w wl)(c:Alt g wl w')(hg:w.heap.size<=g):Alt bw w w':=⟨c.os.trans a.os,c.tape.trans a.tape,c.output.trans a.output,Nat.le_trans a.size c.size,fun k hk hn=>(c.block k (Nat.lt_of_lt_of_le hk a.size) (by omega)).trans (a.block k hk hn)⟩
theorem StW.beside{B g bw:Nat}{x:Wo}{w w':World}(h:StW B g x w)(ha:Alt bw w w')(hb:bw<B):StW B g x w':=h.keep fun b hB hl=>ha.block b hl (by omega)
attribute [local go_sem ↓] z4d
theorem tplay_td(A:Option Addr)(C b off bw:Nat)(l:List Dd)(w:World)(hD:q2A w A b off l)(hbw:b≠bw)(hW:CAt 38 w bw (vsC z9V.p.s.V)) :
  Calls prog 9 #[.slice A l.length C,.func (.func 13) #[] #[.pointer (some ⟨bw,0,none⟩)]] w fun e w'=>∃ g,e=.returned (.tuple #[.pointer (some ⟨g,0,none⟩),.bool true])/\Alt bw w w':=by
 have HA:=hide (z6e w);have HD:=hide (fun (wx:World) (ha:Alt bw w wx)=>hD.alt ha hbw);have HWB:=hide hW;have hbl:=hW.lt;clear hD hW hbw
 go_enter func9,ntmps9
 go_upto_region 3 with (go_at_call 28;refine HA.out.mono ?_;rintro e w1 ⟨rfl,b1⟩;have HB1:=hide b1;clear b1)
 have HN:=hide (z4q w1)
 go_upto_region 4 with (go_at_call 22;refine HN.out.mono ?_;rintro e w2 ⟨g,rfl,h2,b2⟩;have HS2:=hide (show _/\_ from ⟨h2,zbt HB1.out b2⟩);have hg1:=HB1.out.size;have hg2:=h2.le;clear h2 b2)
 go_upto_region 5 with fail
 have HR0:Hid (StW w1.heap.size g (stW l 0) w2/\CAt 38 w2 bw (vsC (stW l 0).p.s.V)/\Alt bw w w2):=⟨HS2.out.1,HWB.out.over HS2.out.2,Alt.of HS2.out.2⟩;clear HS2 HN HA
 go_loopw [7] (fun i wl=>∃ (k:Nat),k<=l.length/\k<=120/\i=.int .i64 (k:Int)/\Hid (StW w1.heap.size g (stW l k) wl/\CAt 38 wl bw (vsC (stW l k).p.s.V)/\Alt bw w wl)) (fun i _=>120 - (intOf i).toNat)
 case atStart=>exact ⟨0,Nat.zero_le _,by omega,rfl,HR0⟩
 case round =>
  obtain ⟨k,hk,hk2,rfl,HRR⟩:=hrel;clear HR0
  by_cases hlt:k<l.length/\k<120
  ·obtain ⟨h1,h2⟩:=hlt;have hI1:(k:Int)<(l.length:Int):=by omega
   have hI2:(k:Int)<120:=by omega
   have hx:l[k]?=some l[k]:=List.getElem?_eq_getElem h1;have hst:=z9K hx;generalize l[k]=d at hx hst;have HST:=hide hst;have HDV:=hide (dv_do HRR.out.1.inv d);have HSF:=hide (fun (h1:d.k=6) (h2:(doW (stW l k) d).2.1=0)=>set_free (x:=stW l k) h1 h2);rw[← hst]at HDV HSF;have HDO:=hide (z4N w1.heap.size g (stW l k) d wr HRR.out.1);have ld:=(HD.out wr HRR.out.2.2).load hx;have hA:A=some ⟨b,off,none⟩:=(HD.out wr HRR.out.2.2).adr (by omega)
   have HX:=hide hx;subst hA;clear hst hx
   go_upto_region 8 with (go_at_call 24;refine HDO.out.mono ?_;rintro e w3 ⟨rfl,h3,a3⟩;have HS3:=hide (show _/\_ from ⟨h3,a3⟩);clear h3 a3)
   have S4:=HS3.out.1.over (znw w3 (.cells #[.int .i64 (doW (stW l k) d).2.1,.int .i64 (doW (stW l k) d).2.2] 32));have R4:CAt 32 (w3.alloc (.cells #[.int .i64 (doW (stW l k) d).2.1,.int .i64 (doW (stW l k) d).2.2] 32)) w3.heap.size #[.int .i64 (doW (stW l k) d).2.1,.int .i64 (doW (stW l k) d).2.2]:=CAt.new _ w3 _;have B4:CAt 38 (w3.alloc (.cells #[.int .i64 (doW (stW l k) d).2.1,.int .i64 (doW (stW l k) d).2.2] 32)) bw (vsC (stW l k).p.s.V)/\Alt bw w (w3.alloc (.cells #[.int .i64 (doW (stW l k) d).2.1,.int .i64 (doW (stW l k) d).2.2] 32)):=⟨(HS3.out.2.cat (by omega) HRR.out.2.1).alloc _,(alt_do HRR.out.2.2 HS3.out.2 (by omega)).trans (Alt.of (znw w3 _))⟩
   rw[← HST.out]at S4;have HS4:=hide (show _/\_/\_ from ⟨S4,B4,R4⟩);clear S4 B4 R4 HS3 HDO HRR ld;generalize (doW (stW l k) d).2.1=rc at *;generalize (doW (stW l k) d).2.2=rn at *;generalize w3.alloc (.cells #[.int .i64 rc,.int .i64 rn] 32)=w4 at *;have hd4:Below w4.heap.size w4 w4.drew:=(Below.refl _ w4).drew;have HT:=hide (tdead1_any w1.heap.size g bw (stW l (k+1)) _ d rc rn w4.drew (HS4.out.1.over hd4) (HS4.out.2.1.1.over hd4) HDV.out (fun h1 h2 y hy v hv=>HSF.out h1 h2 y hy v hv));have ld4:=(HD.out w4.drew (HS4.out.2.1.2.trans (Alt.of hd4))).load HX.out;have r0:w4.cell? ⟨w3.heap.size,0,none⟩=some (.int .i64 rc):=HS4.out.2.2.cell 0;have r1:w4.cell? ⟨w3.heap.size,1,none⟩=some (.int .i64 rn):=HS4.out.2.2.cell 1;have hz4:=HS4.out.2.2.lt;have HD4:=hide hd4;clear hd4
   go_region_with (go_at_call 13;refine HT.out.mono ?_;rintro e w5 ⟨rfl,c5,a5⟩;have HB5:=hide (show _/\_ from ⟨c5,(Alt.of (g:=bw) HD4.out).trans a5⟩);clear c5 a5)
   all_goals (apply_assumption;go_wp2;exact ⟨⟨k+1,by omega,by omega,by go_num,hide ⟨HS4.out.1.beside HB5.out.2 (by omega),HB5.out.1,HS4.out.2.1.2.trans HB5.out.2⟩⟩,by simp[intOf];omega⟩)
  ·by_cases h1:k<l.length
   ·obtain rfl:k=120:=by omega
    have hI1:((120:Nat):Int)<(l.length:Int):=by omega
    have hI2:(120:Int)<(l.length:Int):=by omega
    go_wp2;go_ret2
    first
     | exact ⟨g,rfl,HRR.out.2.2⟩
     | exact ⟨⟨g,rfl⟩,HRR.out.2.2⟩
   ·have hI1:¬ (k:Int)<(l.length:Int):=by omega
    go_wp2;go_ret2
    first
     | exact ⟨g,rfl,HRR.out.2.2⟩
     | exact ⟨⟨g,rfl⟩,HRR.out.2.2⟩
theorem ltdead_any(A:Option Addr)(C b off:Nat)(l:List Dd)(w:World)(hD:q2A w A b off l):Calls prog 4 #[.slice A l.length C] w fun e w'=>e=.returned (.bool true)/\Below w.heap.size w w':=by
 have HP:Hid (Calls prog 9 #[.slice A l.length C,.func (.func 13) #[] #[.pointer (some ⟨w.heap.size,0,none⟩)]] (w.alloc (.cells (vsC z9V.p.s.V) 38)) fun e w'=>∃ g,e=.returned (.tuple #[.pointer (some ⟨g,0,none⟩),.bool true])/\Alt w.heap.size (w.alloc (.cells (vsC z9V.p.s.V) 38)) w'):=by
  have hb:Below w.heap.size w (w.alloc (.cells (vsC z9V.p.s.V) 38)):=znw w _
  by_cases h0:0<l.length
  ·exact tplay_td A C b off w.heap.size l _ (hD.over hb (Nat.le_refl _)) (by have:=hD.lt h0;omega) (CAt.new _ w _)
  ·have hl:l=[]:=List.eq_nil_of_length_eq_zero (by omega)
   subst hl;exact tplay_td A C (w.heap.size+1) 0 w.heap.size [] _ ⟨fun h=>absurd h (by simp),by simp,fun i x h=>by simp at h⟩ (by omega) (CAt.new _ w _)
 clear hD
 go_enter func4,ntmps4
 go_upto_region 2 with fail
 change Code.wp prog _ _ _ (w.alloc (.cells (vsC z9V.p.s.V) 38))
 go_wp2_with (go_at_call 9;refine HP.out.mono ?_;rintro e w1 ⟨g,rfl,a1⟩;have HA:=hide a1;clear a1)
 go_ret;exact ⟨rfl,z6a (Nat.le_refl _) (znw w _) HA.out⟩
end Wd
end Go.Proofs.YtmopekkhmhhcaaaGreat
