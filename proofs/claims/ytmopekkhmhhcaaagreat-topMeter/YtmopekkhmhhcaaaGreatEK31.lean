/- Parts of the proof. -/
import Derived.Test.YtmopekkhmhhcaaaGreatEL
import Derived.Test.YtmopekkhmhhcaaaGreatEK29
set_option maxRecDepth 100000
set_option maxHeartbeats 16000000
namespace Go.Proofs.YtmopekkhmhhcaaaGreat
open Go.Proofs.Tryz
namespace Pv
open Go.RowKit
theorem z3a:(prog.info? 57).map (·.size)=some 97:=by kernel_rfl
theorem z0d:zeroCells57.size=97:=by kernel_rfl
theorem z6J{w:World}{b:Nat}{p:Pr}{v:PrV}(h:CAt 57 w b (prC p v)):w.rangeAt b 2 (stC p.s v.ws).toList:=h.part fun j x hx=>by
 have hj:j<63:=(List.getElem?_eq_some_iff.1 hx).1;simp only[prC,List.getElem?_toArray];rw[show 2+j=j+2 by omega]
 show ((stC p.s v.ws).toList ++ _)[j]?=_
 rw[List.getElem?_append_left (by simpa [z0f] using hj)]
 exact hx
theorem j7d{p:Pr}{v:PrV}(u:Value):(prC p v).setIfInBounds 65 u=prC p { v with set:=u }:=rfl
theorem j8Z{p:Pr}{v:PrV}(u:Value):(prC p v).setIfInBounds 96 u=prC p { v with q:=u }:=rfl
def PrV.upd(v:PrV)(k:Nat)(x:LkV):PrV:={ v with l:=fun i=>if i=k then x else v.l i }
theorem j1B(p:Pr)(v:PrV)(k:Nat)(hk:k<2):∃ a c:List Value,a.length=66+k * 14/\prC p v=(a ++ (lkL (p.L k) (v.l k) ++ c)).toArray/\∀ x,prC p (v.upd k x)=(a ++ (lkL (p.L k) x ++ c)).toArray:=by
 have h0:([.int .i64 p.h,.int .i64 p.t] ++ ((stC p.s v.ws).toList ++ [v.set]):List Value).length=66:=by simp[z0f]
 match k,hk with
 | 0,_ =>
  refine ⟨[.int .i64 p.h,.int .i64 p.t] ++ ((stC p.s v.ws).toList ++ [v.set]),lkL (p.L 1) (v.l 1) ++ [.int .i64 p.ml,.int .i64 p.mn,v.q],h0,?_,fun x=>?_⟩
  ·simp[prC]
  ·simp[prC,PrV.upd]
 | 1,_ =>
  refine ⟨[.int .i64 p.h,.int .i64 p.t] ++ ((stC p.s v.ws).toList ++ [v.set]) ++ lkL (p.L 0) (v.l 0),[.int .i64 p.ml,.int .i64 p.mn,v.q],?_,?_,fun x=>?_⟩
  ·rw[List.length_append,h0];rfl
  ·simp[prC]
  ·simp[prC,PrV.upd]
theorem z4j{p:Pr}{v:PrV}(k:Nat)(hk:k<2)(j:Nat)(hj:j<14):(prC p v)[66+k * 14+j]?=(lkL (p.L k) (v.l k))[j]?:=by
 obtain ⟨a,c,ha,h1,h2⟩:=j1B p v k hk;rw[h1,List.getElem?_toArray,List.getElem?_append_right (by omega),ha,Nat.add_sub_cancel_left,List.getElem?_append_left (by exact hj)]
theorem Rep.one{P:Nat->Prop}{w:World}{v:Value}{sz bts:Nat}{cs:List Value}(h:Rep P w v sz bts cs):v.oneCell'=true:=by
 obtain ⟨_,_,_,rfl,_⟩:=h;rfl
theorem j2s{P:Nat->Prop}{w:World}{x:Lk}{v:LkV}(h:z5s P w x v):∀ u∈lkL x v,u.oneCell'=true:=fun u hu=>by
 simp only[lkL,List.mem_cons,List.not_mem_nil,or_false]at hu
 rcases hu with rfl | rfl | rfl | rfl | rfl | rfl | rfl | rfl | rfl | rfl | rfl | rfl | rfl | rfl <;> first | rfl | exact h.told.one | exact h.done.one | exact h.said.one | exact h.due.one
theorem z1c{P:Nat->Prop}{w:World}{p:Pr}{v:PrV}(h:PIn P w p v):(prC p v).all (·.oneCell')=true:=by
 obtain ⟨A,n,C,e,_⟩:=h.ws;have hs:(stC p.s v.ws).all (·.oneCell')=true:=by rw[e];exact z0x _ _ _ _
 rw[Array.all_eq_true_iff_forall_mem]at *;obtain ⟨_,_,⟨Aq,nq,Cq,eq,_⟩,_⟩:=h.q;intro u hu;simp only[prC,List.mem_toArray,List.mem_append,List.mem_cons,List.not_mem_nil,or_false]at hu
 rcases hu with (rfl | rfl) | hu | rfl | hu | hu | rfl | rfl | rfl
 ·rfl
 ·rfl
 ·exact hs u (by simpa using hu)
 ·exact h.set.one
 ·exact j2s (h.lk 0 (by omega)) u hu
 ·exact j2s (h.lk 1 (by omega)) u hu
 ·rfl
 ·rfl
 ·rw[eq];rfl
theorem take_one{α:Type}{l:List α}{k:Nat}{x:α}(h:l[k]?=some x):l.take k ++ [x]=l.take (k+1):=by
 have hlt:=(List.getElem?_eq_some_iff.1 h).1;rw[List.take_succ_eq_append_getElem hlt]
 congr 2
 exact ((List.getElem?_eq_some_iff.1 h).2).symm
end Pv
namespace Pv
open Go.RowKit
def j5Z(v:Value):Sem Value:=Instr.loadAt 51 v
theorem q0i(v:Value):Instr.loadAt 51 v=j5Z v:=rfl
theorem z2d{w:World}{b:Nat}{p:Pr}{v:PrV}(h:CAt 57 w b (prC p v)):(z7O (.pointer (some ⟨b,2,none⟩))).run prog w=.ok (.agg (stC p.s v.ws)) w:=by
 have:=run_loadAt_mid (P:=prog) w b 2 43 _ _ (z6J h) underlying43 rfl (by rw[z0t];rfl)
 change (Instr.loadAt 43 _).run prog w=_
 simpa using this
attribute [local go_sem ↓] q0i
end Pv
section
def z6l(x:Vd)(pb pw:Int):Vd:={ x with tok:=x.tok - pb,lost:=x.lost+(pb+pw) }
def z1G(s:St)(v:Nat)(h f:Int):St:={ s with b:=(z2C s.b (ptN (s.V v).tok f) (slN v h f s.W)).1,V:=z1E s.V v (z6l (s.V v) (ptN (s.V v).tok f) (slN v h f s.W)),W:=slW v h f s.W }
theorem q6t{b:Bk}{x y:Int}(hg:b.good=true)(hx:0<=x/\x<=b.bo)(hy:0<=y/\y<=b.wa):(z2C b x y).2=0/\(z2C b x y).1.good=true/\(z2C b x y).1.bo=b.bo - x/\(z2C b x y).1.wa=b.wa - y/\(z2C b x y).1.bu=b.bu+(x+y):=by
 have hb:=(z5g b).1 hg;have h1:=z9m (f:=4) (t:=6) hg hx.1 (by omega) hx.2
 have g1:=(z9q (f:=4) (t:=6) (.inr (.inr (.inr (.inl ⟨rfl,rfl⟩)))) hg hx.1 hx.2).1;have h2:=z9m (f:=5) (t:=6) g1 hy.1 (by omega) (show y<=b.wa from hy.2)
 have g2:=(z9q (f:=5) (t:=6) (.inr (.inr (.inr (.inr ⟨rfl,rfl⟩)))) g1 hy.1 (show y<=b.wa from hy.2)).1;unfold z2C;rw[h1];simp only[if_true];rw[h2];simp only[if_true];refine ⟨trivial,g2,rfl,rfl,?_⟩
 show b.bu+x+y=_
 omega
theorem q8Z(v h f:Int)(x:Wt):(slX v h f x).num=x.num/\(slX v h f x).d=x.d/\(slX v h f x).v=x.v/\(slX v h f x).hei=x.hei/\(slX v h f x).due=x.due/\(slX v h f x).amt=x.amt - slP v h f x:=by
 unfold slX slP
 split
 ·exact ⟨rfl,rfl,rfl,rfl,rfl,rfl⟩
 ·exact ⟨rfl,rfl,rfl,rfl,rfl,by omega⟩
theorem z9J{next v h f:Int}(hf:0<=f/\f<=1000):∀ {W:List Wt} {last:Int},wOk next last W=true->wOk next last (slW v h f W)=true
 | [],_,_=>rfl
 | x :: W,last,hw=>by
  obtain ⟨k1,k2,k3,k4,k5,k6⟩:=q8Z v h f x;simp only[wOk,q0p,Bool.and_eq_true,decide_eq_true_eq,z4I,z2N,z0z]at hw;obtain ⟨⟨⟨⟨⟨⟨⟨h1,h2⟩,h3⟩,h4⟩,h5⟩,h6⟩,h7⟩,h8⟩:=hw;have hp:=j2u (v:=v) (h:=h) h5 hf;have ih:=z9J (v:=v) (h:=h) hf h8;simp only[slW,List.map_cons,wOk,q0p,Bool.and_eq_true,decide_eq_true_eq,z4I,z2N,z0z,k1,k2,k3,k4,k5,k6];exact ⟨⟨⟨⟨⟨⟨⟨h1,h2⟩,h3⟩,h4⟩,by omega⟩,h6⟩,h7⟩,ih⟩
theorem j1q{V:Nat->Vd}(h:∀ k,k<6->0<=(V k).lost){v:Nat}(hv:v<6):(V v).lost<=z3p V 6:=by
 have h0:=h 0 (by omega);have h1:=h 1 (by omega);have h2:=h 2 (by omega);have h3:=h 3 (by omega);have h4:=h 4 (by omega);have h5:=h 5 (by omega)
 simp only[z3p]
 rcases six hv with rfl | rfl | rfl | rfl | rfl | rfl <;> omega
theorem z4w{s:St}(hg:z0h s=true){v:Nat}(hv:v<6)(h:Int){f:Int}(hf:0<=f/\f<=1000):ptE (s.V v).tok f=0/\(0<=ptN (s.V v).tok f/\ptN (s.V v).tok f<=(s.V v).tok)/\(0<=slN v h f s.W/\slN v h f s.W<=s.b.wa)/\(s.V v).tok<=s.b.bo/\(0<=(s.V v).lost/\(s.V v).lost<=s.b.bu)/\s.b.bo<=400000/\s.b.wa<=400000/\s.b.bu<=400000/\z2u s.W<=400000/\(∀ x∈s.W,0<=x.amt/\x.amt<=1125899906842624)/\s.W.length<=60:=by
 obtain ⟨h1,h2,h3,h4,h5,h6,h7,h8,h9⟩:=(z0K s).1 hg;have hb:=(z5g s.b).1 h1;have hx:=(z1L _).1 (h6 v hv).1;have hA:∀ x∈s.W,0<=x.amt/\x.amt<=1125899906842624:=fun x hx=>(z4K h5 x hx).2.2.2.2.1;have hp:=j1D hx.1 hf;have hn:=q2I (v:=v) (h:=h) hf hA;have ht:=q9n (fun k hk=>((z1L _).1 (h6 k hk).1).1.1) hv;have hl:=j1q (fun k hk=>((z1L _).1 (h6 k hk).1).2.2.1.1) hv;rw[h7]at ht;rw[h8]at hn;rw[h9]at hl;exact ⟨hp.1,hp.2,hn,ht,⟨hx.2.2.1.1,hl⟩,by omega,by omega,by omega,by omega,hA,h4⟩
theorem z5T{s:St}(hg:z0h s=true){v:Nat}(hv:v<6)(h:Int){f:Int}(hf:0<=f/\f<=1000):(z2C s.b (ptN (s.V v).tok f) (slN v h f s.W)).2=0/\(z1G s v h f).b.good=true/\(z1G s v h f).b.bo=s.b.bo - ptN (s.V v).tok f/\(z1G s v h f).b.wa=s.b.wa - slN v h f s.W/\(z1G s v h f).b.bu=s.b.bu+(ptN (s.V v).tok f+slN v h f s.W):=by
 have hs:=z4w hg hv h hf;exact q6t ((z0K s).1 hg).1 ⟨hs.2.1.1,by omega⟩ hs.2.2.1
theorem z5X{s:St}(hg:z0h s=true){v:Nat}(hv:v<6)(h:Int){f:Int}(hf:0<=f/\f<=1000):z0h (z1G s v h f)=true:=by
 obtain ⟨b0,b1,b2,b3,b4⟩:=z5T hg hv h hf;obtain ⟨n1,n2,n3,n4,n5,n6,n7,n8,n9,n10,n11⟩:=z4w hg hv h hf;rw[z0K]at hg ⊢;obtain ⟨h1,h2,h3,h4,h5,h6,h7,h8,h9⟩:=hg;have hB:=(z5g _).1 b1;refine ⟨b1,h2,h3,?_,z9J hf h5,fun k hk=>?_,?_,?_,?_⟩
 ·show (slW v h f s.W).length<=60
  unfold slW;rw[List.length_map];exact h4
 ·obtain ⟨i1,i2,i3⟩:=h6 k hk
  show vOk (z1E s.V v _ k)=true/\z3f s.S k 4=true/\psh s.S k 4=(z1E s.V v _ k).sh
  unfold z1E
  by_cases hkv:k=v
  ·subst hkv;rw[if_pos rfl];rw[z1L]at i1;refine ⟨?_,i2,i3⟩;rw[z1L];refine ⟨⟨?_,?_⟩,i1.2.1,⟨?_,?_⟩,?_,i1.2.2.2.2⟩ <;> simp only[z6l] <;> first | omega | (intro hp;exact i1.2.2.2.1 (by omega))
  ·rw[if_neg hkv];exact ⟨i1,i2,i3⟩
 ·show z7I (z1E s.V v _) 6=_
  rw[z6E _ _ _ hv,h7,b2];simp only[z6l];omega
 ·show z2u (slW v h f s.W)=_
  rw[q7s,h8,b3]
 ·show z3p (z1E s.V v _) 6=_
  rw[z5x _ _ _ hv,h9,b4];simp only[z6l];omega
end
section
open Go.RowKit
theorem j9j(w:World)(a b c d:Int):(Op.equalIn 10000 80 (.agg #[.int .i64 a,.int .i64 b]) (.agg #[.int .i64 c,.int .i64 d])).run prog w=.ok (decide (a=c/\b=d)) w:=by
 have hi:(prog.info? 3).isSome=true:=by kernel_rfl
 obtain ⟨i,hi⟩:=Option.isSome_iff_exists.1 hi;have hc:prog.cellsOf 3=1:=by kernel_rfl
 rw[run_equalIn_array w 9999 _ _ underlying80 hi,hc,show List.range 2=[0,1] from rfl];simp only[Op.eqItems];go_simp
 by_cases h0:a=c <;> by_cases h1:b=d <;> simp[h0,h1]
theorem j9l(w:World)(a b:Int):(binOp .neq 80 (.agg #[.int .i64 a,.int .i64 b]) (.agg #[.int .i64 0,.int .i64 0])).run prog w=.ok (.bool (!decide (a=0/\b=0))) w:=by
 rw[run_neq_struct,j9j];rfl
theorem q5x(x:Wt)(w:World):Calls prog 115 #[.agg #[.int .i64 x.num,.int .i64 x.d,.int .i64 x.v,.int .i64 x.amt,.int .i64 x.hei,.int .i64 x.due,.int .i64 x.h0,.int .i64 x.h1]] w fun e w'=>e=.returned (.bool (!decide (x.h0=0/\x.h1=0)))/\Below w.heap.size w w':=by
 have hn:=fun w=>j9l w x.h0 x.h1
 go_enter func115,ntmps115
 go_wp2;go_ret;refine ⟨?_,znw w _⟩
 show Ending.returned (Value.bool (!decide (x.h0=0) || !decide (x.h1=0)))=_
 by_cases h0:x.h0=0 <;> by_cases h1:x.h1=0 <;> simp[h0,h1]
def nuL(l:List Int):List Value:=l.map fun n=>.int .i64 n
def q0h(B:Nat)(w:World)(A:Option Addr)(C:Nat)(l:List Int):Prop:=w.ownsRow B 3 1 (.slice A l.length C) l.length (nuL l)
theorem j6J:(prog.info? 3).map (fun i=>(i.zero,i.size,i.bytes))=some (some (.int .i64 0),1,8):=by kernel_rfl
theorem q0h.over{B:Nat}{w w':World}{A:Option Addr}{C:Nat}{l:List Int}(h:q0h B w A C l)(hb:Below w.heap.size w w'):q0h B w' A C l:=z1h h fun k hk=>hb.block k (World.ownsRow.lt h k hk).2
theorem j9i(B:Nat)(w:World)(A:Option Addr)(C y:Nat)(l:List Int)(x:Int)(h:q0h B w A C l)(h60:l.length<=60)(hB:B<=w.heap.size)(hy:w.cell? ⟨y,0,none⟩=some (.int .i64 x)) :
  ∃ g C' w',(Builtin.append_ #[45,45] 45 #[.slice A l.length C,.slice (some ⟨y,0,none⟩) 1 1]).run prog w=.ok (.slice (some ⟨g,0,none⟩) (l.length+1) C') w'/\q0h B w' (some ⟨g,0,none⟩) C' (l ++ [x])/\B<=g/\g<w'.heap.size/\Below B w w'/\(∀ k,k<w.heap.size->some k≠(Value.slice A l.length C).ownBlock->g≠k/\w'.heap[k]?=w.heap[k]?):=by
 obtain ⟨i0,hi,hz0,hz1,hz2⟩:=info_parts j6J;obtain ⟨g,cap,w',hr,ho,hg,hat,hlt⟩:=run_append_lies (P:=prog) w 45 45 B 3 i0 _ 1 8 underlying45 hi hz0 hz1 hz2 rfl (by omega) (.slice A l.length C) l.length (nuL l) h ⟨y,0,none⟩ 1 1 [.int .i64 x] rfl (fun j v hv=>by rcases j with _ | j <;> simp at hv;subst hv;simpa [Addr.add] using hy) (by intro u hu;simp at hu;rcases hu with rfl;rfl) (by omega) (by simp only[maxLen];omega) (by omega) hB _ rfl
 have ho':q0h B w' (some ⟨g,0,none⟩) cap (l ++ [x]):=by
  unfold q0h;rw[List.length_append,nuL,List.map_append];exact ho
 refine ⟨g,cap,w',hr,ho',(World.ownsRow.lt ho' g rfl).1,hlt,⟨hg.os,hg.tape,hg.output,hg.size,fun k hk=>hg.block k (by omega) (fun he=>?_)⟩,fun k hk hne=>⟨?_,hg.block k hk hne⟩⟩
 ·have:=(World.ownsRow.lt h k he.symm).1;omega
 ·rcases hat with hat | hat
  ·rintro rfl;exact hne hat.symm
  ·omega
theorem q2c{ops:Array Oper}{rest:List Oper}{o:Oper}{a:Act}{w:World}{Q:Exit->Act->World->Prop}(hg:o.guard=none)(hty:o.type=45)(p q:Operand)
  (hop:o.op=Op.call { callee:=Callee.builtin Builtin.append,args:=#[p,q],argTypes:=#[45,45] }) (B:Nat) (A:Option Addr) (C y:Nat) (W:List Int) (x:Int) (hs:a.eval p=.slice A W.length C) (hx:a.eval q=.slice (some ⟨y,0,none⟩) 1 1)
  (h:q0h B w A C W) (h60:W.length<=60) (hB:B<=w.heap.size) (hy:w.cell? ⟨y,0,none⟩=some (.int .i64 x))
  (hK:∀ g C' w',q0h B w' (some ⟨g,0,none⟩) C' (W ++ [x])/\B<=g/\g<w'.heap.size/\Below B w w'/\(∀ k,k<w.heap.size->some k≠(Value.slice A W.length C).ownBlock->g≠k/\w'.heap[k]?=w.heap[k]?)->wpList prog ops Q rest (a.put o.dst (.slice (some ⟨g,0,none⟩) (W.length+1) C')) w'):wpList prog ops Q (o :: rest) a w:=by
 refine wpList_plain hg fun _ hK'=>?_;unfold Oper.wp;obtain ⟨g,C',w',hr,h1⟩:=j9i B w A C y W x h h60 hB hy
 simp[execOp,hop,resolve,invoke,builtin,hs,hx,hty,hr,Result.andThen]
 exact hK' _ _ (hK _ _ _ h1)
theorem z7H{fn:Func}{p q u:Tmp}(h:fn.results=#[.cell p 43,.tmp q,.tmp u])(tmps:Array Value)(w:World)(g:Nat)(cs:Array Value)(v v2:Value)
  (hp:tmps.getD p undef=.pointer (some ⟨g,0,none⟩)) (hq:tmps.getD q undef=v) (hu:tmps.getD u undef=v2) (hg:SAt w g cs) (hsz:cs.size=63) :
  (results fn tmps).run prog w=.ok (.tuple #[.agg cs,v,v2]) w:=by
 have hp':tmps[p]?.getD undef=.pointer (some ⟨g,0,none⟩):=by simpa using hp
 have hq':tmps[q]?.getD undef=v:=by simpa using hq
 have hu':tmps[u]?.getD undef=v2:=by simpa using hu
 simp[results,h,hp',hq',hu',asAddr,run_loadVar_row w g 43 43 cs (0,0) _ hg underlying43 rfl (by rw[z0t,hsz])]
theorem z8G{f:Func}{p q u:Tmp}(hres:f.results=#[.cell p 43,.tmp q,.tmp u]){g:Nat}{wq:World}{zs:Array Value}(R:SAt wq g zs)(hz:zs.size=63)(s':St)(sl v v2:Value)(Q:Ending->World->Prop)(hQ:Q (.returned (.tuple #[.agg (stC s' sl),v,v2])) (wq.setCells g 0 (stC s' sl).toList))(act:Act)
  (h8:act.tmps.getD p undef=.pointer (some ⟨g,0,none⟩)) (h9:act.tmps.getD q undef=v) (h10:act.tmps.getD u undef=v2) (hd:act.defers=[]) :
  bodyPost prog f Q Exit.ret act (wq.setCells g 0 (stC s' sl).toList):=by
 have R3:=R.z0G (ds:=stC s' sl) (by rw[hz];rfl)
 exact bodyPost_ret (v:=.tuple #[.agg (stC s' sl),v,v2]) (z7H hres _ _ g _ _ _ h8 h9 h10 R3 rfl) hd hQ
theorem z3T{w:World}{b b' e z n:Nat}{v:Value}{xs:List Value}(h:w.ownsRow b e z v n xs)(hb:b'<=b):w.ownsRow b' e z v n xs:=by
 refine ⟨h.1,?_⟩
 rcases h.2 with hn | ⟨g,cap,cur,hv,h2,h3⟩
 ·exact .inl hn
 ·exact .inr ⟨g,cap,cur,hv,Nat.le_trans hb h2,h3⟩
structure q6X(s:St)(ao:Option Addr)(c:Nat)(t:Int)(B bb:Nat)(w:World)(k:Nat)(A:Option Addr)(C:Nat)(A':Option Addr)(C':Nat)(wl:World):Prop where
 own9:z2f B wl A C (z1q t (s.W.take k))
 own10:q0h B wl A' C' (z1X t (s.W.take k))
 apart:∀ k',(Value.slice A (z1q t (s.W.take k)).length C).ownBlock=some k'->some k'≠(Value.slice A' (z1X t (s.W.take k)).length C').ownBlock
 S:SAt wl w.heap.size (stC s (.slice ao s.W.length c))
 R:SAt wl (w.heap.size+1) Z63
 bank:BAt wl bb (z4F t s.b (s.W.take k)).f0 (z4F t s.b (s.W.take k)).f1 (z4F t s.b (s.W.take k)).f2 (z4F t s.b (s.W.take k)).f3 (z4F t s.b (s.W.take k)).bo (z4F t s.b (s.W.take k)).wa (z4F t s.b (s.W.take k)).bu
 below:Below w.heap.size w wl
 size:B<=wl.heap.size
theorem q6X.over{s:St}{ao:Option Addr}{c:Nat}{t:Int}{B bb:Nat}{w:World}{k:Nat}{A:Option Addr}{C:Nat}{A':Option Addr}{C':Nat}{wl w':World}(h:q6X s ao c t B bb w k A C A' C' wl)(hw:w.heap.size<=wl.heap.size)(hb:Below wl.heap.size wl w'):q6X s ao c t B bb w k A C A' C' w':=
 ⟨h.own9.over hb,h.own10.over hb,h.apart,h.S.later hb h.S.lt,h.R.later hb h.R.lt,h.bank.later hb h.bank.lt,h.below.trans (hb.mono hw),Nat.le_trans h.size hb.size⟩
theorem q2K{t:Int}{W:List Wt}{k:Nat}{x:Wt}(hx:W[k]?=some x)(hd:z6x t x=false):(z1q t (W.take (k+1))).length=(z1q t (W.take k)).length+1/\(z1X t (W.take (k+1))).length=(z1X t (W.take k)).length:=by
 unfold z1X;rw[z1i hx,z5t,z4i,if_neg (by simp[hd]),if_neg (by simp[hd]),List.length_append]
 exact ⟨rfl,rfl⟩
theorem j0e{t:Int}{W:List Wt}{k:Nat}{x:Wt}(hx:W[k]?=some x)(hd:z6x t x=true):(z1q t (W.take (k+1))).length=(z1q t (W.take k)).length/\(z1X t (W.take (k+1))).length=(z1X t (W.take k)).length+1:=by
 unfold z1X;rw[z1i hx,z5t,z4i,if_pos hd,if_pos hd,List.length_map,List.length_map,List.length_append];exact ⟨rfl,rfl⟩
theorem q6X.left{s:St}{ao:Option Addr}{c:Nat}{t:Int}{B bb:Nat}{w:World}{k:Nat}{A:Option Addr}{C:Nat}{A':Option Addr}{C':Nat}{wl w':World}(h:q6X s ao c t B bb w k A C A' C' wl){x:Wt}(hx:s.W[k]?=some x)(hd:z6x t x=false)(hbb:bb<B)(hw:w.heap.size+1<B){g D:Nat}
  (h1:z2f B w' (some ⟨g,0,none⟩) D (z1q t (s.W.take k) ++ [x])) (h4:Below B wl w') (h5:∀ k',k'<wl.heap.size->some k'≠(Value.slice A (z1q t (s.W.take k)).length C).ownBlock->g≠k'/\w'.heap[k']?=wl.heap[k']?):q6X s ao c t B bb w (k+1) (some ⟨g,0,none⟩) D A' C' w':=by
 have eL:z1q t (s.W.take (k+1))=z1q t (s.W.take k) ++ [x]:=by rw[z1i hx,z5t,if_neg (by simp[hd])]
 have eP:z1X t (s.W.take (k+1))=z1X t (s.W.take k):=by unfold z1X;rw[z1i hx,z4i,if_neg (by simp[hd])]
 have eB:z4F t s.b (s.W.take (k+1))=z4F t s.b (s.W.take k):=by rw[z1i hx,z7D,if_neg (by simp[hd])]
 have hp:∀ k',(Value.slice A' (z1X t (s.W.take k)).length C').ownBlock=some k'->g≠k'/\w'.heap[k']?=wl.heap[k']?:=fun k' hk=>h5 k' (World.ownsRow.lt h.own10 k' hk).2 fun he=>h.apart k' he.symm hk.symm;refine ⟨by rw[eL];exact h1,by rw[eP];exact z1h h.own10 fun k' hk=>(hp k' hk).2,?_,(h4.block _ (by omega)).trans h.S,(h4.block _ (by omega)).trans h.R,by rw[eB];exact (h4.block _ hbb).trans h.bank,h.below.trans (h4.mono (by omega)),Nat.le_trans h.size h4.size⟩
 rw[eP];intro k' hk he;cases hk;exact (hp g he.symm).1 rfl
theorem q6X.paid{s:St}{ao:Option Addr}{c:Nat}{t:Int}{B bb:Nat}{w:World}{k:Nat}{A:Option Addr}{C:Nat}{A':Option Addr}{C':Nat}{wl w':World}(h9:z2f B wl A C (z1q t (s.W.take k)))(hap:∀ k',(Value.slice A (z1q t (s.W.take k)).length C).ownBlock=some k'->some k'≠(Value.slice A' (z1X t (s.W.take k)).length C').ownBlock)(hS:SAt wl w.heap.size (stC s (.slice ao s.W.length c)))(hR:SAt wl (w.heap.size+1) Z63)(hbank:BAt wl bb (z4F t s.b (s.W.take (k+1))).f0 (z4F t s.b (s.W.take (k+1))).f1 (z4F t s.b (s.W.take (k+1))).f2 (z4F t s.b (s.W.take (k+1))).f3 (z4F t s.b (s.W.take (k+1))).bo (z4F t s.b (s.W.take (k+1))).wa (z4F t s.b (s.W.take (k+1))).bu)(hbel:Below w.heap.size w wl)(hsz:B<=wl.heap.size)
  {x:Wt} (hx:s.W[k]?=some x) (hd:z6x t x=true) (hbb:bb<B) (hw:w.heap.size+1<B) {g D:Nat}
  (h1:q0h B w' (some ⟨g,0,none⟩) D (z1X t (s.W.take k) ++ [x.num])) (h4:Below B wl w') (h5:∀ k',k'<wl.heap.size->some k'≠(Value.slice A' (z1X t (s.W.take k)).length C').ownBlock->g≠k'/\w'.heap[k']?=wl.heap[k']?):q6X s ao c t B bb w (k+1) A C (some ⟨g,0,none⟩) D w':=by
 have eL:z1q t (s.W.take (k+1))=z1q t (s.W.take k):=by rw[z1i hx,z5t,if_pos hd]
 have eP:z1X t (s.W.take (k+1))=z1X t (s.W.take k) ++ [x.num]:=by unfold z1X;rw[z1i hx,z4i,if_pos hd,List.map_append];rfl
 have hp:∀ k',(Value.slice A (z1q t (s.W.take k)).length C).ownBlock=some k'->g≠k'/\w'.heap[k']?=wl.heap[k']?:=fun k' hk=>h5 k' (World.ownsRow.lt h9 k' hk).2 (hap k' hk);refine ⟨by rw[eL];exact z1h h9 fun k' hk=>(hp k' hk).2,by rw[eP];exact h1,?_,(h4.block _ (by omega)).trans hS,(h4.block _ (by omega)).trans hR,(h4.block _ hbb).trans hbank,hbel.trans (h4.mono (by omega)),Nat.le_trans hsz h4.size⟩
 rw[eL];intro k' hk he;cases he;exact (hp g hk).1 rfl
theorem j1C(s:St)(ao:Option Addr)(sb so c:Nat)(t:Int)(w:World)(hW:z2n w ao sb so s.W)(hg:z0h s=true) :
  Calls prog 84 #[.agg (stC s (.slice ao s.W.length c)),.int .i64 t] w fun e w'=>∃ A C A' C',e=.returned (.tuple #[.agg (stC (z5G s t) (.slice A (z5G s t).W.length C)),.slice A' (z1X t s.W).length C',.int .i64 0])/\z2f w.heap.size w' A C (z5G s t).W/\q0h w.heap.size w' A' C' (z1X t s.W)/\Below w.heap.size w w':=by
 have SS:=(SAt.new w (stC s (.slice ao s.W.length c))).alloc (.cells Z63 43);have RR:=SAt.new2 w (.cells (stC s (.slice ao s.W.length c)) 43) Z63;have HB:Hid (Below w.heap.size w ((w.alloc (.cells (stC s (.slice ao s.W.length c)) 43)).alloc (.cells Z63 43))):=(znw w _).alloc (by simp) _
 have HW:=hide hW;have hG:=fun w h=>z6Y s ao sb so c w h;have hl60:s.W.length<=60:=((z0K s).1 hg).2.2.2.1;have hPy:=fun k x hx hd w=>(j1f hg t (k:=k) (x:=x) hx hd) ▸ j4P (z4F t s.b (s.W.take k)) x.d x.amt w;rw[hg]at hG;clear hW
 go_enter func84,ntmps84
 go_upto_region 1 with fail
 change Code.wp prog _ _ _ ((w.alloc (.cells (stC s (.slice ao s.W.length c)) 43)).alloc (.cells Z63 43));generalize (w.alloc (.cells (stC s (.slice ao s.W.length c)) 43)).alloc (.cells Z63 43)=w0 at *;apply wp_region_lit;refine wpList_load_mid rfl 43 _ rfl _ 0 rfl _ _ SS.range underlying43 rfl (by rw[z0t];rfl) ?_
 go_upto_region 3 with (go_at_call 100;refine (hG _ (by exact HW.out.over HB.out)).mono ?_;rintro e w1 ⟨rfl,h1⟩)
 have HB1:=hide (zbt HB.out h1);have S1:=SS.later h1 SS.lt;have R1:=RR.later h1 RR.lt;have hz1:w.heap.size+1<w1.heap.size:=R1.lt;have hz1a:w.heap.size<w1.heap.size:=by omega
 clear SS RR h1 HB hG;obtain ⟨x0,x1,x2,x3,x4,x5,x6,_,_⟩:=z0p S1
 go_upto_region 4 with fail
 have B2:BAt (w1.alloc (.cells #[.int .i64 s.b.f0,.int .i64 s.b.f1,.int .i64 s.b.f2,.int .i64 s.b.f3,.int .i64 s.b.bo,.int .i64 s.b.wa,.int .i64 s.b.bu] 35)) w1.heap.size s.b.f0 s.b.f1 s.b.f2 s.b.f3 s.b.bo s.b.wa s.b.bu:=heap_alloc_new _ _;have S2:=S1.alloc (.cells #[.int .i64 s.b.f0,.int .i64 s.b.f1,.int .i64 s.b.f2,.int .i64 s.b.f3,.int .i64 s.b.bo,.int .i64 s.b.wa,.int .i64 s.b.bu] 35);have R2:=R1.alloc (.cells #[.int .i64 s.b.f0,.int .i64 s.b.f1,.int .i64 s.b.f2,.int .i64 s.b.f3,.int .i64 s.b.bo,.int .i64 s.b.wa,.int .i64 s.b.bu] 35);have HB2:=hide (HB1.out.alloc (by omega) (.cells #[.int .i64 s.b.f0,.int .i64 s.b.f1,.int .i64 s.b.f2,.int .i64 s.b.f3,.int .i64 s.b.bo,.int .i64 s.b.wa,.int .i64 s.b.bu] 35))
 generalize w1.alloc (.cells #[.int .i64 s.b.f0,.int .i64 s.b.f1,.int .i64 s.b.f2,.int .i64 s.b.f3,.int .i64 s.b.bo,.int .i64 s.b.wa,.int .i64 s.b.bu] 35)=w2 at *;clear S1 R1 HB1 x0 x1 x2 x3 x4 x5 x6;have hz2:w1.heap.size<w2.heap.size:=B2.lt;have hz2a:w.heap.size<w2.heap.size:=by omega
 have x7:=(z0p S2).2.2.2.2.2.2.2.1;have HP0:Hid (q6X s ao c t w2.heap.size w1.heap.size w 0 none 0 none 0 w2):=⟨⟨rfl,.inl ⟨rfl,rfl⟩⟩,⟨rfl,.inl ⟨rfl,rfl⟩⟩,fun k' h=>(by cases h),S2,R2,B2,HB2.out,Nat.le_refl _⟩
 clear S2 R2 B2 HB2;have hadr:=HW.out.adr
 go_upto_region 7 with fail
 go_loopw [9,10,22] (fun l9 p10 i wl=>∃ (k:Nat) (A:Option Addr) (C:Nat) (A':Option Addr) (C':Nat),k<=s.W.length/\i=.int .i64 (k:Int)/\l9=.slice A (z1q t (s.W.take k)).length C/\p10=.slice A' (z1X t (s.W.take k)).length C'/\Hid (q6X s ao c t w2.heap.size w1.heap.size w k A C A' C' wl)) (fun _ _ i _=>s.W.length - (intOf i).toNat)
 case atStart=>exact ⟨0,none,0,none,0,Nat.zero_le _,rfl,rfl,rfl,HP0⟩
 case round =>
  obtain ⟨k,A,C,A',C',hk,rfl,rfl,rfl,HP⟩:=hrel;have hwr:=HP.out.size;clear HP0 x7
  by_cases hlt:k<s.W.length
  ·obtain ⟨x,hx,_⟩:=drop_at hlt;obtain ⟨c0,c1,c2,c3,c4,c5,c6,c7⟩:=(HW.out.over HP.out.below).cell k x hx;obtain rfl:=hadr (by omega)
   have h9:(z1q t (s.W.take k)).length<=60:=Nat.le_trans (List.length_filter_le _ _) (by rw[List.length_take];omega)
   have h10:(z1X t (s.W.take k)).length<=60:=by unfold z1X;rw[List.length_map];exact Nat.le_trans (List.length_filter_le _ _) (by rw[List.length_take];omega)
   have hH:=q5x x;have hPk:=hPy k x hx;have HX:=hide hx;clear hadr hPy hx;have Yq:YAt (wr.alloc (.cells #[.int .i64 x.num,.int .i64 x.d,.int .i64 x.v,.int .i64 x.amt,.int .i64 x.hei,.int .i64 x.due,.int .i64 x.h0,.int .i64 x.h1] 82)) wr.heap.size x:=heap_alloc_new _ _;have HQ:=hide (HP.out.over (by omega) (znw wr (.cells #[.int .i64 x.num,.int .i64 x.d,.int .i64 x.v,.int .i64 x.amt,.int .i64 x.hei,.int .i64 x.due,.int .i64 x.h0,.int .i64 x.h1] 82)))
   have hzq:wr.heap.size<(wr.alloc (.cells #[.int .i64 x.num,.int .i64 x.d,.int .i64 x.v,.int .i64 x.amt,.int .i64 x.hei,.int .i64 x.due,.int .i64 x.h0,.int .i64 x.h1] 82)).heap.size:=Yq.lt
   by_cases hd1:x.due<=t
   ·by_cases hd2:x.h0=0/\x.h1=0
    ·have HD:Hid (z6x t x=true):=by show z6x t x=true;simp[z6x,hd1,hd2]
     have hPk2:=hPk HD.out;rw[decide_eq_true hd2]at hH;clear hPk hd2
     go_upto_region 9 with fail
     generalize wr.alloc (.cells #[.int .i64 x.num,.int .i64 x.d,.int .i64 x.v,.int .i64 x.amt,.int .i64 x.hei,.int .i64 x.due,.int .i64 x.h0,.int .i64 x.h1] 82)=wq at *;clear c0 c1 c2 c3 c4 c5 c6 c7 HP;obtain ⟨c0,c1,c2,c3,c4,c5,c6,c7⟩:=Yq.cells;have hwq:=HQ.out.size;generalize hb0:z4F t s.b (s.W.take k)=bk0 at *;generalize hb1:z4F t s.b (s.W.take (k+1))=bk1 at *
     go_upto_region 12 with (first
      | (go_at_call 115;refine (hH _).mono ?_;rintro e w5 ⟨rfl,h5⟩;have HQ5:=hide (HQ.out.over (by omega) h5);have Y5:=Yq.later h5 Yq.lt;clear c0 c1 c2 c3 c4 c5 c6 c7;obtain ⟨c0,c1,c2,c3,c4,c5,c6,c7⟩:=Y5.cells;have B5:=HQ5.out.bank;rw[hb0]at B5;obtain ⟨b0,b1,b2,b3,b4,b5,b6⟩:=B5.cells;have hz5:=Y5.lt;have hz5b:=B5.lt;clear h5 B5)
      | (go_at_call 116;refine (hPk2 _).mono ?_;rintro e w6 ⟨rfl,h6⟩;have HQ6:=hide (HQ5.out.over (by omega) h6);have Y6:=Y5.later h6 Y5.lt;have B6:=HQ6.out.bank;clear b0 b1 b2 b3 b4 b5 b6;obtain ⟨b0,b1,b2,b3,b4,b5,b6⟩:=B6.cells;obtain ⟨f0,f1,f2,f3,f4,f5,f6⟩:=B6.frees;have hz6:=Y6.lt;have hz6b:=B6.lt;clear h6))
     change Code.wp prog _ _ _ (z5Q w6 w1.heap.size bk1);have hbt:But w1.heap.size w6 (z5Q w6 w1.heap.size bk1):=(((((((But.refl _ _).set 0 _).set 1 _).set 2 _).set 3 _).set 4 _).set 5 _).set 6 _;have B7:BAt (z5Q w6 w1.heap.size bk1) w1.heap.size bk1.f0 bk1.f1 bk1.f2 bk1.f3 bk1.bo bk1.wa bk1.bu:=BAt.z6i B6 _ _ _ _ _ _ _;have S7:=hbt.z1d (by omega) HQ6.out.S
     have R7:=hbt.z1d (by omega) HQ6.out.R
     have Y7:YAt (z5Q w6 w1.heap.size bk1) wr.heap.size x:=(hbt.block _ (by omega)).trans Y6
     have HO9:Hid (z2f w2.heap.size (z5Q w6 w1.heap.size bk1) A C (z1q t (s.W.take k))):=z1h HQ6.out.own9 fun k' hk=>hbt.block _ (by have:=(World.ownsRow.lt HQ6.out.own9 k' hk).1;omega)
     have HO10:Hid (q0h w2.heap.size (z5Q w6 w1.heap.size bk1) A' C' (z1X t (s.W.take k))):=z1h HQ6.out.own10 fun k' hk=>hbt.block _ (by have:=(World.ownsRow.lt HQ6.out.own10 k' hk).1;omega)
     have HB7:=hide (HQ6.out.below.trans (hbt.below (by omega)))
     have HAP:=hide HQ6.out.apart;clear c0 c1 c2 c3 c4 c5 c6 c7 b0 b1 b2 b3 b4 b5 b6 f0 f1 f2 f3 f4 f5 f6 hbt HQ6 Y6 B6 hb0;generalize z5Q w6 w1.heap.size bk1=w7 at *;have c0:=Y7.cells.1;have hz7:=Y7.lt;have hz7w:w2.heap.size<=w7.heap.size:=by omega
     have HS7:=hide S7;have HR7:=hide R7;have HB7':=hide B7;rw[← hb1]at HB7';clear S7 R7 B7 hb1
     go_wp2_with (at_builtin;refine q2c rfl rfl _ _ rfl w2.heap.size A' C' w7.heap.size (z1X t (s.W.take k)) x.num rfl rfl (by exact HO10.out.over (znw w7 _)) (by omega) (by simp;omega) (by rw[World.cell?_alloc_at _ _ _ _ rfl];rfl) ?_;rintro g D w13 ⟨hO13,hg1,hg2,hb13,hk13⟩;have HO13:=hide hO13;have HB13:=hide hb13;have HK13:=hide hk13;clear hO13 hb13 hk13)
     have hba:=(Below.refl w7.heap.size w7).alloc (Nat.le_refl _) (.cells #[.int .i64 x.num] 3);have HP1:=hide (q6X.paid (HO9.out.over hba) HAP.out (HS7.out.later hba HS7.out.lt) (HR7.out.later hba HR7.out.lt) (HB7'.out.later hba HB7'.out.lt) (HB7.out.trans (hba.mono (by omega))) (Nat.le_trans hz7w hba.size) HX.out HD.out (by omega) (by omega) HO13.out HB13.out HK13.out)
     have hll:=j0e HX.out HD.out;exact ⟨⟨k+1,A,C,some ⟨g,0,none⟩,D,by omega,by go_num,by rw[hll.1],by rw[hll.2],HP1⟩,by simp[intOf];omega⟩
    ·have HD:Hid (z6x t x=false):=by show z6x t x=false;simp[z6x,hd1,hd2]
     rw[decide_eq_false hd2]at hH
     go_upto_region 9 with fail
     generalize wr.alloc (.cells #[.int .i64 x.num,.int .i64 x.d,.int .i64 x.v,.int .i64 x.amt,.int .i64 x.hei,.int .i64 x.due,.int .i64 x.h0,.int .i64 x.h1] 82)=wp at *;clear c0 c1 c2 c3 c4 c5 c6 c7 HP hPk hd2;obtain ⟨c0,c1,c2,c3,c4,c5,c6,c7⟩:=Yq.cells;have hwq:=HQ.out.size
     go_upto_region 10 with (go_at_call 115;refine (hH _).mono ?_;rintro e wq ⟨rfl,h5⟩;have HQ5:=hide (HQ.out.over (by omega) h5);have Y5:=Yq.later h5 Yq.lt;clear h5)
     clear c0 c1 c2 c3 c4 c5 c6 c7 HQ Yq;obtain ⟨c0,c1,c2,c3,c4,c5,c6,c7⟩:=Y5.cells;have HQ:=hide HQ5.out;have hz5:=Y5.lt
     go_wp2_with (at_builtin;refine z8O rfl rfl _ _ rfl w2.heap.size A C wq.heap.size (z1q t (s.W.take k)) x rfl rfl (by exact HQ.out.own9.over (znw wq _)) (by omega) (by simp;omega) (by exact fun j u hj=>q7d wq x _ j u hj) ?_;rintro g D w13 ⟨hO13,hg1,hg2,hb13,hk13⟩;have HO13:=hide hO13;have HB13:=hide hb13;have HK13:=hide hk13;clear hO13 hb13 hk13)
     have HP1:=hide ((HQ.out.over (by omega) (znw wq (.cells #[.int .i64 x.num,.int .i64 x.d,.int .i64 x.v,.int .i64 x.amt,.int .i64 x.hei,.int .i64 x.due,.int .i64 x.h0,.int .i64 x.h1] 82))).left HX.out HD.out (by omega) (by omega) HO13.out HB13.out HK13.out)
     have hll:=q2K HX.out HD.out;exact ⟨⟨k+1,some ⟨g,0,none⟩,D,A',C',by omega,by go_num,by rw[hll.1],by rw[hll.2],HP1⟩,by simp[intOf];omega⟩
   ·have HD:Hid (z6x t x=false):=by show z6x t x=false;simp[z6x,hd1]
    go_upto_region 9 with fail
    generalize wr.alloc (.cells #[.int .i64 x.num,.int .i64 x.d,.int .i64 x.v,.int .i64 x.amt,.int .i64 x.hei,.int .i64 x.due,.int .i64 x.h0,.int .i64 x.h1] 82)=wq at *;clear c0 c1 c2 c3 c4 c5 c6 c7 HP hPk hH;obtain ⟨c0,c1,c2,c3,c4,c5,c6,c7⟩:=Yq.cells;have hwq:=HQ.out.size
    go_wp2_with (at_builtin;refine z8O rfl rfl _ _ rfl w2.heap.size A C wq.heap.size (z1q t (s.W.take k)) x rfl rfl (by exact HQ.out.own9.over (znw wq _)) (by omega) (by simp;omega) (by exact fun j u hj=>q7d wq x _ j u hj) ?_;rintro g D w13 ⟨hO13,hg1,hg2,hb13,hk13⟩;have HO13:=hide hO13;have HB13:=hide hb13;have HK13:=hide hk13;clear hO13 hb13 hk13)
    have HP1:=hide ((HQ.out.over (by omega) (znw wq (.cells #[.int .i64 x.num,.int .i64 x.d,.int .i64 x.v,.int .i64 x.amt,.int .i64 x.hei,.int .i64 x.due,.int .i64 x.h0,.int .i64 x.h1] 82))).left HX.out HD.out (by omega) (by omega) HO13.out HB13.out HK13.out)
    have hll:=q2K HX.out HD.out;exact ⟨⟨k+1,some ⟨g,0,none⟩,D,A',C',by omega,by go_num,by rw[hll.1],by rw[hll.2],HP1⟩,by simp[intOf];omega⟩
  ·obtain rfl:k=s.W.length:=by omega
   clear hPy hadr;rw[List.take_length];have HS:=hide HP.out.S;have HR:=hide HP.out.R;have HBk:=hide HP.out.bank;have HO9:=hide HP.out.own9;have HO10:=hide HP.out.own10;have HBw:=hide HP.out.below;clear HP;rw[List.take_length]at HBk HO9 HO10;obtain ⟨x0,x1,x2,x3,x4,x5,x6,x7,_⟩:=z0p HS.out;obtain ⟨b0,b1,b2,b3,b4,b5,b6⟩:=HBk.out.cells;have f0:=HS.out.free 0;have f1:=HS.out.free 1;have f2:=HS.out.free 2;have f3:=HS.out.free 3;have f4:=HS.out.free 4;have f5:=HS.out.free 5;have f6:=HS.out.free 6;have f61:=HS.out.free 61;have hne:w1.heap.size≠w.heap.size:=by omega
   have hzr:w.heap.size<wr.heap.size:=by omega
   have hzr1:w1.heap.size<wr.heap.size:=by omega
   generalize hbk:z4F t s.b s.W=bk at *
   go_upto_region 17 with fail
   change Code.wp prog _ _ _ ((z5Q wr w.heap.size bk).setCell ⟨w.heap.size,61,none⟩ (.slice A (z1q t s.W).length C));have hbt:But w.heap.size wr ((z5Q wr w.heap.size bk).setCell ⟨w.heap.size,61,none⟩ (.slice A (z1q t s.W).length C)):=((((((((But.refl _ _).set 0 _).set 1 _).set 2 _).set 3 _).set 4 _).set 5 _).set 6 _).set 61 _;have S8:=(z6D HS.out bk).set 61 (.slice A (z1q t s.W).length C);rw[z9V]at S8;have R8:=hbt.z1d (by omega) HR.out
   have HO9':Hid (z2f w2.heap.size ((z5Q wr w.heap.size bk).setCell ⟨w.heap.size,61,none⟩ (.slice A (z1q t s.W).length C)) A C (z1q t s.W)):=z1h HO9.out fun k' hk=>hbt.block _ (by have:=(World.ownsRow.lt HO9.out k' hk).1;omega)
   have HO10':Hid (q0h w2.heap.size ((z5Q wr w.heap.size bk).setCell ⟨w.heap.size,61,none⟩ (.slice A (z1q t s.W).length C)) A' C' (z1X t s.W)):=z1h HO10.out fun k' hk=>hbt.block _ (by have:=(World.ownsRow.lt HO10.out k' hk).1;omega)
   have HB8:=hide (HBw.out.trans (hbt.below (Nat.le_refl _)));generalize (z5Q wr w.heap.size bk).setCell ⟨w.heap.size,61,none⟩ (.slice A (z1q t s.W).length C)=w8 at *;clear x0 x1 x2 x3 x4 x5 x6 x7 b0 b1 b2 b3 b4 b5 b6 f0 f1 f2 f3 f4 f5 f6 f61 hbt HS HR HBk HO9 HO10 HBw
   have S9:SAt w8 w.heap.size (stC (z5G s t) (.slice A (z1q t s.W).length C)):=by
    have e:stC (z5G s t) (.slice A (z1q t s.W).length C)=stC { s with b:=bk } (.slice A (z1q t s.W).length C):=by rw[← hbk];rfl
    rw[e];exact S8
   clear S8 hbk;apply wp_region_lit;refine wpList_load_mid rfl 43 _ rfl _ 0 rfl _ _ S9.range underlying43 rfl (by rw[z0t];rfl) ?_
   refine z1K rfl _ rfl ?_;refine wpList_store_mid rfl 43 _ _ rfl _ 0 (stC (z5G s t) (.slice A (z1q t s.W).length C)) rfl rfl (R8.there 0 _ (by rw[z0o,z0f];omega)) (by rw[z0t];rfl) (z0x _ _ _ _) ?_
   go_wp2;exact z8G results84 R8 rfl (z5G s t) _ _ _ _ ⟨A,C,A',C',rfl,z3T (z1h HO9'.out fun k' hk=>z1a (by have:=(World.ownsRow.lt HO9'.out k' hk).1;omega) _ _ _) (by omega),z3T (z1h HO10'.out fun k' hk=>z1a (by have:=(World.ownsRow.lt HO10'.out k' hk).1;omega) _ _ _) (by omega),z0b (by omega) _ _ _ HB8.out⟩ _ rfl rfl rfl rfl
end
namespace Kc
open Go.RowKit Pv
def z4Z(x:Pkt):Bool:=decide (x.k=1) && decide (Cd.z0q x.k x.i x.v x.n x.S x.D=0)
def z7y(x:Int×Int):Bool:=decide (1<=x.1) && decide (x.1<=1099511627776) && decide (0<=x.2)
def z7S(c:Cs):Bool:=(!(c.on && c.gone) && decide (0<=c.h) && decide (c.h<1099511627776) && isT c.t && isT c.id) && (z3k (-1) c.set && c.pd.all z4Z && c.rp.all z7y && Ln.z0W c.out)
def z5C(c:Cs):Int:=if z7S c=true then (if c.on=true then 0 else 4) else 2
def z2J(set:List (Int×Int))(id now:Int):Cs:=⟨true,false,0,now,id,set,[],[],fun _=>false,⟨[],[],0,false⟩,0,0,0,0⟩
def z3Y(c:Cs)(l:List Int):Cs×Int:=
 if z5C c=0 then
  if Cd.z7G l=0 then
   if (z3H l).k=1 then ({ c with pd:=c.pd ++ [z3H l] },0) else (c,3)
  else (c,Cd.z7G l)
 else (c,z5C c)
def z2w(c:Cs)(k i v n:Int)(now:Int):Cs×Int:=
 if Cd.z0q k i v n [] []=0 then ({ c with out:=Ln.z4W c.out (Cd.encS k i v n [] []) (now+40) },Ln.z6h c.out (now+40)) else (c,Cd.z0q k i v n [] [])
def z4b(v:Int):List (Int×Int)->Int
 | []=>0
 | x :: l=>if x.1=v then x.2 else z4b v l
def z4d(c:Cs)(v now:Int):Cs×Int:=
 if isT now=true then
  if z5C c=0 then
   if z4b v c.set=0 then (c,4)
   else if c.fl v.toNat=true then (c,5)
   else if (z2w c 3 c.id v (z4b v c.set) now).2=0 then ({ (z2w c 3 c.id v (z4b v c.set) now).1 with fl:=j4R c.fl v.toNat true },0)
   else (c,(z2w c 3 c.id v (z4b v c.set) now).2)
  else (c,z5C c)
 else (c,2)
def j7i(a:Int):Int:=if a<1 then 1 else a
def z1J(c:Cs)(v id now:Int):Cs×Int:=
 if isT now=true then
  if z5C c=0 then
   if isV v=true then
    if 1<=id/\id<=c.id then z2w c 4 id v (j7i (z4b v c.set)) now else (c,2)
   else (c,4)
  else (c,z5C c)
 else (c,2)
def z1z(c:Cs):Cs:=if c.on=true then { c with on:=false,gone:=true,out:={ c.out with cl:=true } } else c
def z3n(f:Nat->Bool)(l:List Int):Nat->Bool:=l.foldl (fun f v=>j4R f v.toNat false) f
def takeC(c:Cs)(x:Pkt):Cs:={ c with set:=Df.z3X c.set x.S,id:=x.i,fl:=z3n c.fl x.D,rp:=c.rp ++ [(x.i,c.t+15)] }
def z2z(c:Cs):List (Int×Int)->Cs
 | []=>{ c with rp:=[] }
 | x :: l=>if x.2<=c.t then (if (z2w c 2 x.1 0 0 c.t).2=0 then z2z (z2w c 2 x.1 0 0 c.t).1 l else { c with rp:=x :: l }) else { c with rp:=x :: l }
def z2y(c:Cs):Cs:=c.pd.foldl takeC c
def z6r(c:Cs):Cs:=z2z { z2y c with pd:=[] } (z2y c).rp
def z9F(c:Cs)(now:Int):Cs×Int:=
 if z5C c=0 then
  if isT now=true/\c.t<=now then (z6r { c with h:=c.h+1,t:=now },0) else (c,2)
 else (c,z5C c)
theorem z7b(n:Int)(w:World):Calls prog 125 #[.int .i64 n] w fun e w'=>e=.returned (.bool (isT n))/\w=w':=by
 have hT:isT n=(decide (0<=n) && decide (n<=1099511627776)):=rfl;generalize isT n=t at *;have HT:=hide hT;clear hT
 by_cases h:0<=n
 ·by_cases h2:n<=1099511627776
  ·have e:t=true:=by rw[HT.out];simp[h,h2]
   subst e
   go_enter func125,ntmps125
   go_wp2;go_ret;exact ⟨rfl,rfl⟩
  ·have e:t=false:=by rw[HT.out];simp[h2]
   subst e
   go_enter func125,ntmps125
   go_wp2;go_ret;exact ⟨rfl,rfl⟩
 ·have e:t=false:=by rw[HT.out];simp[h]
  subst e
  go_enter func125,ntmps125
  go_wp2;go_ret;exact ⟨rfl,rfl⟩
theorem z9t(v:Int)(w:World):Calls prog 138 #[.int .i64 v] w fun e w'=>e=.returned (.bool (isV v))/\w=w':=by
 have hT:isV v=decide (0<=v/\v<6):=rfl;generalize isV v=t at *;have HT:=hide hT;clear hT
 by_cases h:0<=v
 ·by_cases h2:v<6
  ·have e:t=true:=by rw[HT.out];simp[h,h2]
   subst e
   go_enter func138,ntmps138
   go_wp2;go_ret;exact ⟨rfl,rfl⟩
  ·have e:t=false:=by rw[HT.out];simp[h2]
   subst e
   go_enter func138,ntmps138
   go_wp2;go_ret;exact ⟨rfl,rfl⟩
 ·have e:t=false:=by rw[HT.out];simp[h]
  subst e
  go_enter func138,ntmps138
  go_wp2;go_ret;exact ⟨rfl,rfl⟩
theorem j0l(l:List (Int×Int))(v:Value)(P:Nat->Prop)(w:World)(h:Rep P w v 2 16 (pwC l)):Calls prog 190 #[v] w fun e w'=>e=.returned (.bool (z3k (-1) l))/\Below w.heap.size w w':=by
 obtain ⟨A,C,rfl,hs,-,hc,-⟩:=h.open (z0c _) (by decide)
 have HC:=hide hc;have hlen:l.length<=8796093022202:=by omega
 obtain ⟨G,hG⟩:∃ G,z3k (-1) l=G:=⟨_,rfl⟩;have HG:=hide hG;rw[hG];clear hc h hs hG
 go_enter func190,ntmps190
 go_upto_region 3 with fail
 go_loopw [3,8] (fun s3 i wl=>∃ (k:Nat) (last:Int),k<=l.length/\i=.int .i64 (k:Int)/\s3=.int .i64 last/\-1<=last/\Hid (G=z3k last (l.drop k)/\Below w.heap.size w wl)) (fun _ i _=>l.length - (intOf i).toNat)
 case atStart=>exact ⟨0,-1,Nat.zero_le _,rfl,rfl,by omega,HG.out.symm,Below.refl _ _⟩
 case round =>
  obtain ⟨k,last,hk,rfl,rfl,hla,HR⟩:=hrel
  by_cases hlt:k<l.length
  ·have hkI:(k:Int)<(l.length:Int):=by omega
   obtain ⟨x,hx,hd⟩:=z4u hlt;obtain ⟨b,off,rfl,-,hbl,hcell⟩:=HC.out (by omega)
   have gx:l.getD k (0,0)=x:=by simp[List.getD,hx]
   obtain ⟨p0,p1⟩:=z1U l k hlt;rw[gx]at p0 p1;have c0:wr.cell? ⟨b,off+k * 2,none⟩=some (.int .i64 x.1):=(HR.out.2.cell (p:=⟨b,off+k * 2,none⟩) hbl).trans (hcell _ _ p0);have c1:wr.cell? ⟨b,off+k * 2+1,none⟩=some (.int .i64 x.2):=(HR.out.2.cell (p:=⟨b,off+k * 2+1,none⟩) hbl).trans (hcell _ _ p1);have HE:Hid (G=(z7J last x && z3k x.1 (l.drop (k+1)))):=by have:=HR.out.1;rw[hd]at this;exact this
   have HB:=hide (HR.out.2.alloc HR.out.2.size (.cells #[.int .i64 x.1,.int .i64 x.2] 68));have HO:Hid (∀ last,z7J last x=(decide (last<x.1) && decide (x.1<=5) && decide (1<=x.2) && decide (x.2<=1125899906842624))):=fun _=>rfl;have hvI:Hid (isV x.1=decide (0<=x.1/\x.1<6)):=rfl;clear HR hd hx gx p0 p1 hcell;obtain ⟨x1,x2⟩:=x;dsimp only at c0 c1 hvI
   by_cases h1:last<x1/\x1<=5/\1<=x2/\x2<=1125899906842624
   ·obtain ⟨h1,h2,h3,h4⟩:=h1;have e:G=z3k x1 (l.drop (k+1)):=by rw[HE.out,HO.out];simp[h1,h2,h3,h4]
    have HE2:=hide e;have hv:isV x1=true:=by rw[hvI.out];simp;omega
    clear e HE
    go_wp2_with (go_at_call 138;refine (z9t _ _).mono ?_;rintro e w' ⟨rfl,rfl⟩)
    first | exact ⟨⟨k+1,x1,by omega,by go_num,rfl,by omega,HE2.out,HB.out⟩,by simp[intOf];omega⟩ | ((repeat apply Exists.intro);exact ⟨⟨k+1,x1,by omega,by go_num,rfl,by omega,HE2.out,HB.out⟩,rfl⟩)
   ·have e:G=false:=by
     rw[HE.out,HO.out];simp only[Bool.and_eq_false_iff,decide_eq_false_iff_not]
     by_cases q1:last<x1
     ·by_cases q2:x1<=5
      ·by_cases q3:1<=x2
       ·exact .inl (.inr fun q4=>h1 ⟨q1,q2,q3,q4⟩)
       ·exact .inl (.inl (.inr q3))
      ·exact .inl (.inl (.inl (.inr q2)))
     ·exact .inl (.inl (.inl (.inl q1)))
    subst e;clear HE HG
    have hcs:¬ last<x1∨(last<x1/\isV x1=false)∨(last<x1/\isV x1=true/\¬ 1<=x2)∨(last<x1/\isV x1=true/\1<=x2/\¬ x2<=1125899906842624):=by
     by_cases q1:last<x1
     ·by_cases q2:x1<=5
      ·have hv:isV x1=true:=by rw[hvI.out];simp;omega
       by_cases q3:1<=x2
       ·exact .inr (.inr (.inr ⟨q1,hv,q3,fun q4=>h1 ⟨q1,q2,q3,q4⟩⟩))
       ·exact .inr (.inr (.inl ⟨q1,hv,q3⟩))
      ·have hv:isV x1=false:=by rw[hvI.out];simp;omega
       exact .inr (.inl ⟨q1,hv⟩)
     ·exact .inl q1
    clear h1
    rcases hcs with h1 | ⟨h1,h2⟩ | ⟨h1,h2,h3⟩ | ⟨h1,h2,h3,h4⟩
    all_goals
     go_wp2_with (go_at_call 138;refine (z9t _ _).mono ?_;rintro e w' ⟨rfl,rfl⟩)
     go_ret;exact ⟨rfl,HB.out⟩
  ·obtain rfl:k=l.length:=by omega
   have e:G=true:=by have:=HR.out.1;rw[List.drop_length]at this;exact this
   subst e;go_wp2;go_ret;exact ⟨rfl,HR.out.2⟩
theorem q4c(l:List (Int×Int))(v:Value)(P:Nat->Prop)(w:World)(h:Rep P w v 2 8 (pwC l)):Calls prog 192 #[v] w fun e w'=>e=.returned (.bool (l.all z7y))/\Below w.heap.size w w':=by
 obtain ⟨A,C,rfl,hs,-,hc,-⟩:=h.open (z0c _) (by decide)
 have HC:=hide hc;have hlen:l.length<=17592186044404:=by omega
 obtain ⟨G,hG⟩:∃ G,l.all z7y=G:=⟨_,rfl⟩;have HG:=hide hG;rw[hG];clear hc h hs hG
 go_enter func192,ntmps192
 go_upto_region 2 with fail
 go_loopw [7] (fun i wl=>∃ (k:Nat),k<=l.length/\i=.int .i64 (k:Int)/\Hid (G=(l.drop k).all z7y/\Below w.heap.size w wl)) (fun i _=>l.length - (intOf i).toNat)
 case atStart=>exact ⟨0,Nat.zero_le _,rfl,HG.out.symm,Below.refl _ _⟩
 case round =>
  obtain ⟨k,hk,rfl,HR⟩:=hrel
  by_cases hlt:k<l.length
  ·have hkI:(k:Int)<(l.length:Int):=by omega
   obtain ⟨x,hx,hd⟩:=z4u hlt;obtain ⟨b,off,rfl,-,hbl,hcell⟩:=HC.out (by omega)
   have gx:l.getD k (0,0)=x:=by simp[List.getD,hx]
   obtain ⟨p0,p1⟩:=z1U l k hlt;rw[gx]at p0 p1;have c0:wr.cell? ⟨b,off+k * 2,none⟩=some (.int .i64 x.1):=(HR.out.2.cell (p:=⟨b,off+k * 2,none⟩) hbl).trans (hcell _ _ p0);have c1:wr.cell? ⟨b,off+k * 2+1,none⟩=some (.int .i64 x.2):=(HR.out.2.cell (p:=⟨b,off+k * 2+1,none⟩) hbl).trans (hcell _ _ p1);have HE:Hid (G=(z7y x && (l.drop (k+1)).all z7y)):=by have:=HR.out.1;rw[hd,List.all_cons]at this;exact this
   have HB:=hide (HR.out.2.alloc HR.out.2.size (.cells #[.int .i64 x.1,.int .i64 x.2] 88));have HO:Hid (z7y x=(decide (1<=x.1) && decide (x.1<=1099511627776) && decide (0<=x.2))):=rfl;clear HR hd hx gx p0 p1 hcell;obtain ⟨x1,x2⟩:=x;dsimp only at c0 c1
   by_cases h1:1<=x1/\x1<=1099511627776/\0<=x2
   ·obtain ⟨h1,h2,h3⟩:=h1;have e:G=(l.drop (k+1)).all z7y:=by rw[HE.out,HO.out];simp[h1,h2,h3]
    have HE2:=hide e;clear e HE;go_wp2
    first | exact ⟨⟨k+1,by omega,by go_num,HE2.out,HB.out⟩,by simp[intOf];omega⟩ | ((repeat apply Exists.intro);exact ⟨⟨k+1,by omega,by go_num,HE2.out,HB.out⟩,rfl⟩)
   ·have e:G=false:=by
     rw[HE.out,HO.out]
     have:(decide (1<=x1) && decide (x1<=1099511627776) && decide (0<=x2))=false:=by
      rw[Bool.eq_false_iff];intro h;simp only[Bool.and_eq_true,decide_eq_true_eq]at h;exact h1 ⟨h.1.1,h.1.2,h.2⟩
     dsimp only;rw[this,Bool.false_and]
    subst e;clear HE HG;have hcs:¬ 1<=x1∨(1<=x1/\¬ x1<=1099511627776)∨(1<=x1/\x1<=1099511627776/\¬ 0<=x2):=by omega
    clear h1
    rcases hcs with h1 | ⟨h1,h2⟩ | ⟨h1,h2,h3⟩
    all_goals
     go_wp2;go_ret;exact ⟨rfl,HB.out⟩
  ·obtain rfl:k=l.length:=by omega
   have e:G=true:=by have:=HR.out.1;rw[List.drop_length]at this;exact this
   subst e;go_wp2;go_ret;exact ⟨rfl,HR.out.2⟩
end Kc
end Go.Proofs.YtmopekkhmhhcaaaGreat
