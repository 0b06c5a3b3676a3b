/- Parts of the proof. -/
import Derived.Test.YtddlhnoedldidaaGreatGL
import Derived.Test.YtddlhnoedldidaaGreatGK13
set_option maxRecDepth 100000
set_option maxHeartbeats 16000000
namespace Go.Proofs.YtddlhnoedldidaaGreat
open Go.Proofs.Tryz
open Value renaming int->J,slice->J1,pointer->J2,bool->J3,agg->J4
open IntKind renaming i64->I
open Obj renaming cells->J5
namespace Pv
open Go.RowKit
theorem z2I:∀ (q:List (Int×Pkt)) (z:List (Value×Value)),z.length=q.length->(quL q z).length=q.length * 7
 | [],[],_=>rfl
 | x :: q,y :: z,h=>by
  have:=z2I q z (by simpa using h)
  show (akL x y ++ quL q z).length=_
  rw[List.length_append,this,List.length_cons]
  show 7+_=_
  omega
 | [],_ :: _,h=>by simp at h
 | _ :: _,[],h=>by simp at h
theorem q3h:∀ (q:List (Int×Pkt)) (z:List (Value×Value)) (x:Int×Pkt) (y:Value×Value),z.length=q.length->quL (q ++ [x]) (z ++ [y])=quL q z ++ akL x y
 | [],[],x,y,_=>by simp[quL]
 | a :: q,b :: z,x,y,h=>by
  show akL a b ++ quL (q ++ [x]) (z ++ [y])=(akL a b ++ quL q z) ++ _
  rw[q3h q z x y (by simpa using h),List.append_assoc]
 | [],_ :: _,_,_,h=>by simp at h
 | _ :: _,[],_,_,h=>by simp at h
theorem z6O:∀ (q:List (Int×Pkt)) (z:List (Value×Value)) (i:Nat) (x:Int×Pkt) (y:Value×Value) (j:Nat),q[i]?=some x->z[i]?=some y->j<7->(quL q z)[i * 7+j]?=(akL x y)[j]?
 | a :: q,b :: z,0,x,y,j,h1,h2,hj=>by
  simp at h1 h2
  subst h1 h2
  show (akL a b ++ quL q z)[0 * 7+j]?=_
  rw[Nat.zero_mul,Nat.zero_add,List.getElem?_append_left (by exact hj)]
 | a :: q,b :: z,i+1,x,y,j,h1,h2,hj=>by
  show (akL a b ++ quL q z)[(i+1) * 7+j]?=_
  rw[List.getElem?_append_right (by show 7<=_;omega)]
  rw[show (i+1) * 7+j - (akL a b).length=i * 7+j by show (i+1) * 7+j - 7=_;omega]
  exact z6O q z i x y j (by simpa using h1) (by simpa using h2) hj
 | [],_,i,_,_,_,h1,_,_=>by simp at h1
 | _ :: _,[],i,_,_,_,_,h2,_=>by simp at h2
theorem q8n:(prog.info? 70).map (fun i=>(i.zero,i.size,i.bytes))=some (some (J4 #[J I 0,J I 0,J I 0,J I 0,J I 0,J1 none 0 0,J1 none 0 0]),7,88):=by kernel_rfl
theorem z3y:(prog.info? 58).map (·.size)=some 97:=by kernel_rfl
theorem z0e:zeroCells58.size=97:=by kernel_rfl
theorem z7B{w:World}{b:Nat}{p:Pr}{v:PrV}(h:CAt 58 w b (prC p v)):w.rangeAt b 2 (stC p.s v.ws).toList:=h.part fun j x a=>by
 have c:j<63:=(List.getElem?_eq_some_iff.1 a).1;simp only[prC,List.getElem?_toArray];rw[show 2+j=j+2 by omega]
 show ((stC p.s v.ws).toList ++ _)[j]?=_
 rw[List.getElem?_append_left (by simpa [z0f] using c)]
 exact a
theorem j8U{p:Pr}{v:PrV}(u:Value):(prC p v).setIfInBounds 65 u=prC p { v with set:=u }:=rfl
theorem y2G{p:Pr}{v:PrV}(u:Value):(prC p v).setIfInBounds 96 u=prC p { v with q:=u }:=rfl
def PrV.upd(v:PrV)(k:Nat)(x:LkV):PrV:={ v with l:=fun i=>if i=k then x else v.l i }
theorem j3f(p:Pr)(v:PrV)(k:Nat)(b:k<2):∃ a c:List Value,a.length=66+k * 14/\prC p v=(a ++ (lkL (p.L k) (v.l k) ++ c)).toArray/\∀ x,prC p (v.upd k x)=(a ++ (lkL (p.L k) x ++ c)).toArray:=by
 have h0:([J I p.h,J I p.t] ++ ((stC p.s v.ws).toList ++ [v.set]):List Value).length=66:=by simp[z0f]
 match k,b with
 | 0,_ =>
  refine⟨[J I p.h,J I p.t] ++ ((stC p.s v.ws).toList ++ [v.set]),lkL (p.L 1) (v.l 1) ++ [J I p.ml,J I p.mn,v.q],h0,?_,fun x=>?_⟩
  ·simp[prC]
  ·simp[prC,PrV.upd]
 | 1,_ =>
  refine⟨[J I p.h,J I p.t] ++ ((stC p.s v.ws).toList ++ [v.set]) ++ lkL (p.L 0) (v.l 0),[J I p.ml,J I p.mn,v.q],?_,?_,fun x=>?_⟩
  ·rw[List.length_append,h0];rfl
  ·simp[prC]
  ·simp[prC,PrV.upd]
theorem z4o{p:Pr}{v:PrV}(k:Nat)(b:k<2)(j:Nat)(d:j<14):(prC p v)[66+k * 14+j]?=(lkL (p.L k) (v.l k))[j]?:=by
 obtain⟨a,c,e,h1,h2⟩:=j3f p v k b;rw[h1,List.getElem?_toArray,List.getElem?_append_right (by omega),e,Nat.add_sub_cancel_left,List.getElem?_append_left (by exact d)]
theorem Rep.one{P:Nat->Prop}{w:World}{v:Value}{sz bts:Nat}{cs:List Value}(h:Rep P w v sz bts cs):v.oneCell'=true:=by
 obtain⟨_,_,_,rfl,_⟩:=h;rfl
theorem q8X{P:Nat->Prop}{w:World}{x:Lk}{v:LkV}(h:z5M P w x v):∀ u∈lkL x v,u.oneCell'=true:=fun u hu=>by
 simp only[lkL,List.mem_cons,List.not_mem_nil,or_false]at hu
 rcases hu with rfl | rfl | rfl | rfl | rfl | rfl | rfl | rfl | rfl | rfl | rfl | rfl | rfl | rfl <;> first | rfl | exact h.told.one | exact h.done.one | exact h.said.one | exact h.due.one
theorem z1m{P:Nat->Prop}{w:World}{p:Pr}{v:PrV}(h:PIn P w p v):(prC p v).all (·.oneCell')=true:=by
 obtain⟨A,n,C,e,_⟩:=h.ws;have hs:(stC p.s v.ws).all (·.oneCell')=true:=by rw[e];exact z0E _ _ _ _
 rw[Array.all_eq_true_iff_forall_mem]at *;obtain⟨_,_,⟨a,nq,b,eq,_⟩,_⟩:=h.q;intro u hu;simp only[prC,List.mem_toArray,List.mem_append,List.mem_cons,List.not_mem_nil,or_false]at hu
 rcases hu with (rfl | rfl) | hu | rfl | hu | hu | rfl | rfl | rfl
 ·rfl
 ·rfl
 ·exact hs u (by simpa using hu)
 ·exact h.set.one
 ·exact q8X (h.lk 0 (by omega)) u hu
 ·exact q8X (h.lk 1 (by omega)) u hu
 ·rfl
 ·rfl
 ·rw[eq];rfl
theorem take_one{α:Type}{l:List α}{k:Nat}{x:α}(h:l[k]?=some x):l.take k ++ [x]=l.take (k+1):=by
 have a:=(List.getElem?_eq_some_iff.1 h).1;rw[List.take_succ_eq_append_getElem a]
 congr 2
 exact ((List.getElem?_eq_some_iff.1 h).2).symm
end Pv
namespace Pv
open Go.RowKit
def y1f(v:Value):Sem Value:=Instr.loadAt 52 v
theorem q1l(v:Value):Instr.loadAt 52 v=y1f v:=rfl
theorem z2y{w:World}{b:Nat}{p:Pr}{v:PrV}(h:CAt 58 w b (prC p v)):(z8M (J2 (some ⟨b,2,none⟩))).run prog w=.ok (J4 (stC p.s v.ws)) w:=by
 have:=run_loadAt_mid (P:=prog) w b 2 43 _ _ (z7B h) underlying43 rfl (by rw[z0B];rfl)
 change (Instr.loadAt 43 _).run prog w=_
 simpa using this
attribute [local go_sem ↓] q1l
end Pv
namespace Cd
open Go.RowKit
def z2Y(w:World)(b:Nat)(k i v n s d:Value):Prop:=w.heap[b]?=some (J5 #[k,i,v,n,s,d] 68)
theorem z2Y.cells{w:World}{b:Nat}{k i v n s d:Value}(h:z2Y w b k i v n s d):w.cell? ⟨b,0,none⟩=some k/\w.cell? ⟨b,1,none⟩=some i/\w.cell? ⟨b,2,none⟩=some v/\w.cell? ⟨b,3,none⟩=some n/\w.cell? ⟨b,4,none⟩=some s/\w.cell? ⟨b,5,none⟩=some d/\(∀ o,w.frozen? ⟨b,o,none⟩=false):=by
 unfold z2Y at h
 simp[World.cell?,World.frozen?,h]
theorem z2Y.set{w:World}{b:Nat}{k i v n s d:Value}(h:z2Y w b k i v n s d)(u:Value) :
  z2Y (w.setCell ⟨b,0,none⟩ u) b u i v n s d/\z2Y (w.setCell ⟨b,1,none⟩ u) b k u v n s d/\z2Y (w.setCell ⟨b,2,none⟩ u) b k i u n s d/\z2Y (w.setCell ⟨b,3,none⟩ u) b k i v u s d/\z2Y (w.setCell ⟨b,4,none⟩ u) b k i v n u d/\z2Y (w.setCell ⟨b,5,none⟩ u) b k i v n s u:=by
 unfold z2Y at *
 simp[World.setCell,Array.getElem?_modify,h]
theorem z2Y.lt{w:World}{b:Nat}{k i v n s d:Value}(h:z2Y w b k i v n s d):b<w.heap.size:=(Array.getElem?_eq_some_iff.1 h).1
theorem z2Y.keep{w w':World}{b:Nat}{k i v n s d:Value}{r:Option Nat}(h:z2Y w b k i v n s d)(c:w.grownBy w' r)(a:some b≠r):z2Y w' b k i v n s d:=(c.block b h.lt a).trans h
theorem TS.lt{w:World}{b:Nat}{st:List Int×Bool}(h:TS w b st):b<w.heap.size:=by obtain⟨r,h,_⟩:=h;exact (Array.getElem?_eq_some_iff.1 h).1
theorem TS.keep{w w':World}{b:Nat}{st:List Int×Bool}{r:Option Nat}(h:TS w b st)(d:w.grownBy w' r)(a:some b≠r):TS w' b st:=by
 have c:=h.lt;obtain⟨x,h,h2⟩:=h;exact⟨x,(d.block b c a).trans h,h2⟩
def q2u(w:World)(B:Nat)(v:Value)(l:List (Int×Int)):Prop:=w.ownsRow B 65 2 v l.length (l.flatMap fun p=>[Value.int .i64 p.1,Value.int .i64 p.2])
def Row1(w:World)(B:Nat)(v:Value)(l:List Int):Prop:=w.ownsRow B 3 1 v l.length (l.map (Value.int .i64))
def tkP:Nat->List Int×Bool->List (Int×Int)×(List Int×Bool)
 | 0,st=>([],st)
 | m+1,st=>(((tk 1 st).1,(tk 7 (tk 1 st).2).1) :: (tkP m (tk 7 (tk 1 st).2).2).1,(tkP m (tk 7 (tk 1 st).2).2).2)
def tkD:Nat->List Int×Bool->List Int×(List Int×Bool)
 | 0,st=>([],st)
 | m+1,st=>((tk 1 st).1 :: (tkD m (tk 1 st).2).1,(tkD m (tk 1 st).2).2)
theorem z2O(b:Nat)(st a:List Int×Bool)(x d:Int)(m:Nat)(w:World)(f:TS w b st)(c:d=(m:Int))(g:m<=7)(h:tk m st=(x,a)) :
  Calls prog 46 #[J2 (some ⟨b,0,none⟩),J I d] w fun e w'=>e=.returned (J I x)/\TS w' b a/\w.grownBy w' (some b):=by
 subst c;have:=q7b b st m w f g;rw[h]at this;exact this
theorem q1q{w w1 a:World}{r:Option Nat}(h:w.grownBy w1 r)(k:∀ i,i<w.heap.size->some i≠r->a.heap[i]?=w1.heap[i]?)(d:a.os=w1.os)(e:a.tape=w1.tape)(hu:a.output=w1.output)(hs:w1.heap.size<=a.heap.size):w.grownBy a r:=
 ⟨d.trans h.os,e.trans h.tape,hu.trans h.output,Nat.le_trans h.size hs,fun i c b=>(k i c b).trans (h.block i c b)⟩
theorem z3C{w w1:World}{r:Option Nat}{b o:Nat}{u:Value}(h:w.grownBy w1 r)(hb:w.heap.size<=b):w.grownBy (w1.setCell ⟨b,o,none⟩ u) r:=
 q1q h (fun i a _=>Below.heap_setCell _ _ _ _ (by simp;omega)) rfl rfl rfl (by simp[World.setCell])
structure PSt(w wl:World)(b:Nat)(st:List Int×Bool)(k i v n s d:Value):Prop where
 T:TS wl b st
 Bx:z2Y wl (w.heap.size+1) k i v n s d
 Rs:z2Y wl w.heap.size (J I 0) (J I 0) (J I 0) (J I 0) (J1 none 0 0) (J1 none 0 0)
 G:w.grownBy wl (some b)
 hb:b<w.heap.size
theorem PSt.num{w wl a:World}{b:Nat}{st c:List Int×Bool}{k i v n s d:Value}(h:PSt w wl b st k i v n s d)(f:TS a b c)(g:wl.grownBy a (some b)):PSt w a b c k i v n s d:=
 ⟨f,h.Bx.keep g (by intro e;cases e;have:=h.hb;omega),h.Rs.keep g (by intro e;cases e;have:=h.hb;omega),z5b h.G g,h.hb⟩
theorem TS.other{w:World}{b:Nat}{st:List Int×Bool}(h:TS w b st){c o:Nat}{u:Value}(hc:b≠c):TS (w.setCell ⟨c,o,none⟩ u) b st:=by
 obtain⟨x,h,h2⟩:=h;exact⟨x,(Below.heap_setCell _ _ _ _ hc).trans h,h2⟩
theorem PSt.set{w wl:World}{b:Nat}{st:List Int×Bool}{k i v n s d:Value}(h:PSt w wl b st k i v n s d)(u:Value) :
  PSt w (wl.setCell ⟨w.heap.size+1,0,none⟩ u) b st u i v n s d/\PSt w (wl.setCell ⟨w.heap.size+1,1,none⟩ u) b st k u v n s d/\PSt w (wl.setCell ⟨w.heap.size+1,2,none⟩ u) b st k i u n s d /\
  PSt w (wl.setCell ⟨w.heap.size+1,3,none⟩ u) b st k i v u s d/\PSt w (wl.setCell ⟨w.heap.size+1,4,none⟩ u) b st k i v n u d/\PSt w (wl.setCell ⟨w.heap.size+1,5,none⟩ u) b st k i v n s u:=by
 have hb:=h.hb;obtain⟨f,g,j,l,m,p⟩:=h.Bx.set u;have a:∀ o,z2Y (wl.setCell ⟨w.heap.size+1,o,none⟩ u) w.heap.size (J I 0) (J I 0) (J I 0) (J I 0) (J1 none 0 0) (J1 none 0 0):=fun o=>(Below.heap_setCell _ _ _ _ (by simp)).trans h.Rs
 have c:∀ o,TS (wl.setCell ⟨w.heap.size+1,o,none⟩ u) b st:=fun o=>h.T.other (by omega)
 have e:∀ o,w.grownBy (wl.setCell ⟨w.heap.size+1,o,none⟩ u) (some b):=fun o=>z3C h.G (Nat.le_succ _);exact⟨⟨c _,f,a _,e _,hb⟩,⟨c _,g,a _,e _,hb⟩,⟨c _,j,a _,e _,hb⟩,⟨c _,l,a _,e _,hb⟩,⟨c _,m,a _,e _,hb⟩,⟨c _,p,a _,e _,hb⟩⟩
theorem PSt.alloc{w wl:World}{b:Nat}{st:List Int×Bool}{k i v n s d:Value}(h:PSt w wl b st k i v n s d)(o:Obj):PSt w (wl.alloc o) b st k i v n s d:=
 have g:=World.grownBy_alloc wl o none
 ⟨h.T.keep g (by simp),h.Bx.keep g (by simp),h.Rs.keep g (by simp),z5b h.G (World.grownBy_alloc wl o _),h.hb⟩
theorem PSt.own{w wl a:World}{b:Nat}{st:List Int×Bool}{k i v n s d:Value}{r:Option Nat}(h:PSt w wl b st k i v n s d)(g:wl.grownBy a r)(l:∀ j,r=some j->w.heap.size+2<=j):PSt w a b st k i v n s d:=by
 have hb:=h.hb;have f:∀ c,c<w.heap.size+2->some c≠r:=fun c hc e=>by have:=l c e.symm;omega
 exact⟨h.T.keep g (f _ (by omega)),h.Bx.keep g (f _ (by omega)),h.Rs.keep g (f _ (by omega)),q1q h.G (fun j m _=>g.block j (Nat.lt_of_lt_of_le m h.G.size) (f j (by omega))) g.os g.tape g.output g.size,h.hb⟩
theorem PSt.big{w wl:World}{b:Nat}{st:List Int×Bool}{k i v n s d:Value}(h:PSt w wl b st k i v n s d):w.heap.size+2<=wl.heap.size:=h.Bx.lt
theorem z7V{w wl a:World}{b e size m:Nat}{v:Value}{c:List Value}(h:wl.ownsRow (w.heap.size+2) e size v m c)(g:wl.grownBy a (some b))(hb:b<w.heap.size):a.ownsRow (w.heap.size+2) e size v m c:=
 h.kept g (by
  cases d:v.ownBlock with
  | none=>exact .inl rfl
  | some g=>right;intro e;cases e;have:=(h.lt _ d).1;omega)
theorem z4h{w wl:World}{c o e size m:Nat}{v u:Value}{a:List Value}(h:wl.ownsRow (w.heap.size+2) e size v m a)(hc:c<w.heap.size+2):(wl.setCell ⟨c,o,none⟩ u).ownsRow (w.heap.size+2) e size v m a:=
 h.kept (z4f _ _ _ _) (by
  cases b:v.ownBlock with
  | none=>exact .inl rfl
  | some g=>right;intro e;cases e;have:=(h.lt _ b).1;omega)
theorem z3N{w:World}{base e size n:Nat}{v:Value}{b:List Value}(h:w.ownsRow base e size v n b):∃ a c,v=J1 a n c:=by
 rcases h.2 with⟨rfl,rfl⟩ | ⟨g,cap,_,rfl,_⟩
 ·exact⟨_,_,rfl⟩
 ·exact⟨_,_,rfl⟩
theorem z0H{ops:Array Oper}{o:Oper}{a:Act}{w:World}{K:Act->World->Prop}{Q:Exit->Act->World->Prop}{E:Prop}(b:o.guard=none)(h:Oper.wp prog o a w K Q) :
  if Region.wanted o (yielded ops a.tmps)=true then Oper.wp prog o a w K Q else E:=by
 have c:Region.wanted o (yielded ops a.tmps)=true:=by simp[Region.wanted,b]
 rw[if_pos c];exact h
theorem PSt.drew{w wl:World}{b:Nat}{st:List Int×Bool}{k i v n s d:Value}(h:PSt w wl b st k i v n s d):PSt w wl.drew b st k i v n s d:=
 ⟨h.T,h.Bx,h.Rs,⟨h.G.os,h.G.tape,h.G.output,h.G.size,h.G.block⟩,h.hb⟩
theorem q3R{wl:World}{base e size m:Nat}{v:Value}{a:List Value}(h:wl.ownsRow base e size v m a):wl.drew.ownsRow base e size v m a:=h
theorem q4B{w wl:World}{c e size m:Nat}{v:Value}{a:List Value}(v0 v1 v2 v3 b d:Value)(h:wl.ownsRow (w.heap.size+2) e size v m a)(hc:c<w.heap.size+2):(z3V wl c v0 v1 v2 v3 b d).ownsRow (w.heap.size+2) e size v m a:=
 z4h (z4h (z4h (z4h (z4h (z4h h hc) hc) hc) hc) hc) hc
theorem q6G{w wl:World}{c:Nat}{r:Option Nat}(v0 v1 v2 v3 a b:Value)(h:w.grownBy wl r)(hc:w.heap.size<=c):w.grownBy (z3V wl c v0 v1 v2 v3 a b) r:=
 z3C (z3C (z3C (z3C (z3C (z3C h hc) hc) hc) hc) hc) hc
theorem TS.z3V{w:World}{b c:Nat}{st:List Int×Bool}(v0 v1 v2 v3 a d:Value)(h:TS w b st)(hc:b≠c):TS (z3V w c v0 v1 v2 v3 a d) b st:=
 (((((h.other hc).other hc).other hc).other hc).other hc).other hc
theorem j7D(w:World)(x y:Value)(t:TypeId):∀ j u,[x,y][j]?=some u->(w.alloc (J5 #[x,y] t)).cell? ((⟨w.heap.size,0,none⟩:Addr).add j)=some u:=
 World.news_of_block (heap_alloc_new w (J5 #[x,y] t))
theorem q6S(b:Nat)(st s1 s2 s3 s4 s5 s6 s7 s8:List Int×Bool)(k i v n:Int)(D dn:Nat)(Ps:List (Int×Int))(Ds:List Int)(w:World)(hT:TS w b st)
  (h1:tk 1 st=(k,s1)) (h2:tk 6 s1=(i,s2)) (h3:tk 1 s2=(v,s3)) (h4:tk 7 s3=(n,s4)) (h5:tk 1 s4=((D:Int),s5)) (h6:tkP D s5=(Ps,s6)) (h7:tk 1 s6=((dn:Int),s7)) (h8:tkD dn s7=(Ds,s8)) (j5:D<=255) (j6:dn<=255) :
  Calls prog 28 #[J2 (some ⟨b,0,none⟩)] w fun e w'=>∃ u d,e=.returned (J4 #[J I k,J I i,J I v,J I n,u,d])/\q2u w' (w.heap.size+2) u Ps/\Row1 w' (w.heap.size+2) d Ds/\TS w' b s8/\w.grownBy w' (some b):=by
 obtain⟨i0,hi,f8,f9,g0⟩:=info_parts j9G;obtain⟨j0,hj,g3,g5,g6⟩:=info_parts info3;have B:=hT.lt;have X:Hid (tk 1 st=(k,s1)/\tk 6 s1=(i,s2)/\tk 1 s2=(v,s3)/\tk 7 s3=(n,s4)/\tk 1 s4=((D:Int),s5)/\tkP D s5=(Ps,s6)/\tk 1 s6=((dn:Int),s7)/\tkD dn s7=(Ds,s8)):=⟨h1,h2,h3,h4,h5,h6,h7,h8⟩;clear h1 h2 h3 h4 h5 h6 h7 h8
 have P0:PSt w ((w.alloc (J5 #[J I 0,J I 0,J I 0,J I 0,J1 none 0 0,J1 none 0 0] 68)).alloc (J5 #[J I 0,J I 0,J I 0,J I 0,J1 none 0 0,J1 none 0 0] 68)) b st (J I 0) (J I 0) (J I 0) (J I 0) (J1 none 0 0) (J1 none 0 0):=by
  have g1:=World.grownBy_alloc w (J5 #[J I 0,J I 0,J I 0,J I 0,J1 none 0 0,J1 none 0 0] 68) none;have g2:=World.grownBy_alloc (w.alloc (J5 #[J I 0,J I 0,J I 0,J I 0,J1 none 0 0,J1 none 0 0] 68)) (J5 #[J I 0,J I 0,J I 0,J I 0,J1 none 0 0,J1 none 0 0] 68) none;refine⟨(hT.keep g1 (by simp)).keep g2 (by simp),?_,?_,z5b (World.grownBy_alloc _ _ _) (World.grownBy_alloc _ _ _),B⟩
  ·unfold z2Y;have e:w.heap.size+1=(w.alloc (J5 #[J I 0,J I 0,J I 0,J I 0,J1 none 0 0,J1 none 0 0] 68)).heap.size:=by simp
   rw[e];exact heap_alloc_new _ _
  ·exact (Below.heap_alloc _ _ _ (by simp)).trans (heap_alloc_new _ _)
 clear hT
 go_enter func28,ntmps28
 go_wp2_with fail
 refine (z2O b st s1 k _ 1 _ P0.T rfl (by omega) X.out.1).mono ?_
 rintro e w1⟨rfl,b6,b7⟩;have P1:=P0.num b6 b7;clear b6 b7 P0;obtain⟨c0,c1,c2,c3,F,H,K⟩:=P1.Bx.cells
 go_wp2_with fail
 clear c0 c1 c2 c3 F H K;have a4:=(P1.set (J I k)).1;refine (z2O b s1 s2 i _ 6 _ a4.T rfl (by omega) X.out.2.1).mono ?_
 rintro e w2⟨rfl,b8,b9⟩;have P2:=a4.num b8 b9;clear b8 b9 P1 a4;obtain⟨c0,c1,c2,c3,F,H,K⟩:=P2.Bx.cells
 go_wp2_with fail
 clear c0 c1 c2 c3 F H K;have a5:=(P2.set (J I i)).2.1;refine (z2O b s2 s3 v _ 1 _ a5.T rfl (by omega) X.out.2.2.1).mono ?_
 rintro e w3⟨rfl,c6,c7⟩;have P3:=a5.num c6 c7;clear c6 c7 P2 a5;obtain⟨c0,c1,c2,c3,F,H,K⟩:=P3.Bx.cells
 go_wp2_with fail
 clear c0 c1 c2 c3 F H K;have a6:=(P3.set (J I v)).2.2.1;refine (z2O b s3 s4 n _ 7 _ a6.T rfl (by omega) X.out.2.2.2.1).mono ?_
 rintro e w4⟨rfl,c8,c9⟩;have P4:=a6.num c8 c9;clear c8 c9 P3 a6;obtain⟨c0,c1,c2,c3,F,H,K⟩:=P4.Bx.cells
 go_wp2_with fail
 clear c0 c1 c2 c3 F H K;have a7:=(P4.set (J I n)).2.2.2.1;refine (z2O b s4 s5 (D:Int) _ 1 _ a7.T rfl (by omega) X.out.2.2.2.2.1).mono ?_
 rintro e w5⟨rfl,d6,d7⟩;have P5:=a7.num d6 d7;clear d6 d7 P4 a7
 go_wp2_with fail
 go_loopw [20] (fun j wl=>∃ (m:Nat) (a:List (Int×Int)) (Q:List Int×Bool) (u:Value),m<=D/\j=J I m/\PSt w wl b Q (J I k) (J I i) (J I v) (J I n) u (J1 none 0 0)/\q2u wl (w.heap.size+2) u a/\Hid (a.length=m/\a ++ (tkP (D - m) Q).1=Ps/\(tkP (D - m) Q).2=s6)) (fun j _=>D - (intOf j).toNat)
 case atStart =>
  refine⟨0,[],s5,_,Nat.zero_le _,rfl,P5,World.ownsRow_nil _ _ _ _,rfl,?_,?_⟩
  ·have h6:=X.out.2.2.2.2.2.1
   simp[h6]
  ·have h6:=X.out.2.2.2.2.2.1
   simp[h6]
 case round =>
  obtain⟨m,a,Q,u,hm,rfl,P6,L,P⟩:=hrel;clear P5
  by_cases g8:m<D
  ·obtain⟨f,hf⟩:∃ f,D - m=f+1:=⟨D - m - 1,by omega⟩
   have l:=P.out;rw[hf,tkP]at l;obtain⟨y,sa,hy⟩:∃ y sa,tk 1 Q=(y,sa):=⟨_,_,rfl⟩;obtain⟨z,sc,hz⟩:∃ z sc,tk 7 sa=(z,sc):=⟨_,_,rfl⟩;rw[hy]at l;dsimp only at l;rw[hz]at l;dsimp only at l;have HT:Hid _:=l;have d8:Hid (tk 1 Q=(y,sa)/\tk 7 sa=(z,sc)):=⟨hy,hz⟩;have R:f=D - (m+1):=by omega
   have S:Hid (f=D - (m+1)):=R;have j7:a.length<=255:=by have:=P.out.1;omega
   have g9:Hid (a.length=m):=P.out.1;clear P l hy hz hf R
   go_wp2_with fail
   refine (z2O b Q sa y _ 1 _ P6.T rfl (by omega) d8.out.1).mono ?_
   rintro e wa⟨rfl,d9,a8⟩;have Pa:=P6.num d9 a8;have e6:q2u wa (w.heap.size+2) u a:=z7V L a8 B;clear d9 a8 L P6
   go_wp2_with fail
   refine (z2O b sa sc z _ 7 _ Pa.T rfl (by omega) d8.out.2).mono ?_
   rintro e wb⟨rfl,e7,a9⟩;have Pb:=Pa.num e7 a9;have W:q2u wb (w.heap.size+2) u a:=z7V e6 a9 B;clear e7 a9 e6 Pa;obtain⟨c0,c1,c2,c3,F,H,K⟩:=Pb.Bx.cells;obtain⟨t,A,rfl⟩:=z3N W;have e8:=Pb.big
   go_wp2_with (at_builtin;refine wpList_append_lies _ rfl _ _ 44 rfl (w.heap.size+2) 65 i0 (J4 #[J I 0,J I 0]) 2 16 underlying44 hi f8 f9 g0 rfl (by decide) _ _ _ rfl (World.ownsRow.alloc W _) ⟨wb.heap.size,0,none⟩ 1 1 [J I y,J I z] rfl rfl ?_ ?_ (by decide) (by unfold maxLen;omega) (by omega) (by simp;omega) _ rfl ?_)
   ·exact j7D _ _ _ _
   ·intro u hu;simp at hu;rcases hu with rfl | rfl <;> rfl
   ·intro g cap wd hown r _ _;have Pd:=(Pb.alloc (Obj.cells #[Value.int IntKind.i64 y,Value.int IntKind.i64 z] 65)).own r (fun j hj=>(World.ownsRow.lt W j hj).1);have e9:q2u wd (w.heap.size+2) (J1 (some ⟨g,0,none⟩) (a.length+1) cap) (a ++ [(y,z)]):=by simpa [q2u] using hown
    clear hown r W c0 c1 c2 c3 F H K Pb;obtain⟨c0,c1,c2,c3,F,H,K⟩:=Pd.Bx.cells;have HP:Hid _:=(Pd.set (J1 (some ⟨g,0,none⟩) (a.length+1) cap)).2.2.2.2.1;have HR:Hid _:=z4h (c:=w.heap.size+1) (o:=4) (u:=J1 (some ⟨g,0,none⟩) (a.length+1) cap) e9 (by omega)
    clear e9 Pd;go_wp2;clear c0 c1 c2 c3 F H K;go_roundw
    case rel =>
     refine⟨m+1,a ++ [(y,z)],sc,_,by omega,by go_num,HP.out,HR.out,by rw[List.length_append,g9.out];rfl,?_,?_⟩
     ·rw[<- S.out,List.append_assoc];exact HT.out.2.1
     ·rw[<- S.out];exact HT.out.2.2
    case measure=>simp[intOf];omega
  ·have h9:m=D:=by omega
   subst h9;have l:=P.out;rw[Nat.sub_self,tkP,List.append_nil]at l;obtain⟨i2,rfl,rfl⟩:=l;clear P i2
   go_wp2_with fail
   refine (z2O b Q s7 (dn:Int) _ 1 _ P6.T rfl (by omega) X.out.2.2.2.2.2.2.1).mono ?_
   rintro e w7⟨rfl,f4,b4⟩;have P7:=P6.num f4 b4;have E:q2u w7 (w.heap.size+2) u a:=z7V L b4 B;clear f4 b4 P6 L;obtain⟨t,A,rfl⟩:=z3N E
   go_wp2_with fail
   go_loopw [37] (fun j wl=>∃ (q:Nat) (p:List Int) (Q:List Int×Bool) (d:Value),q<=dn/\j=J I q/\PSt w wl b Q (J I k) (J I i) (J I v) (J I n) (J1 t a.length A) d/\q2u wl (w.heap.size+2) (J1 t a.length A) a/\Row1 wl (w.heap.size+2) d p /\
     Hid ((Value.slice t a.length A).ownBlock=none∨(Value.slice t a.length A).ownBlock≠d.ownBlock)/\Hid (p.length=q/\p ++ (tkD (dn - q) Q).1=Ds/\(tkD (dn - q) Q).2=s8)) (fun j _=>dn - (intOf j).toNat)
   case atStart =>
    have h8:=X.out.2.2.2.2.2.2.2;refine⟨0,[],s7,_,Nat.zero_le _,rfl,P7,E,World.ownsRow_nil _ _ _ _,?_,rfl,?_,?_⟩
    ·cases t with
     | none=>exact .inl rfl
     | some x=>exact .inr (by simp[Value.ownBlock])
    ·simp[h8]
    ·simp[h8]
   case round =>
    obtain⟨q,p,Y,d,hq,rfl,P8,C,s,HN,P⟩:=hrel;clear P7 E
    by_cases g8:q<dn
    ·obtain⟨f,hf⟩:∃ f,dn - q=f+1:=⟨dn - q - 1,by omega⟩
     have l:=P.out;rw[hf,tkD]at l;obtain⟨y,sa,hy⟩:∃ y sa,tk 1 Y=(y,sa):=⟨_,_,rfl⟩;rw[hy]at l;dsimp only at l;have HT:Hid _:=l;have HY:Hid (tk 1 Y=(y,sa)):=hy;have R:f=dn - (q+1):=by omega
     have S:Hid (f=dn - (q+1)):=R;have j8:p.length<=255:=by have:=P.out.1;omega
     have i3:Hid (p.length=q):=P.out.1;clear P l hy hf R;obtain⟨c0,c1,c2,c3,F,H,K⟩:=P8.Bx.cells;obtain⟨M,N,rfl⟩:=z3N s
     go_wp2_with fail
     have b5:=P8.drew;have a0:q2u wr.drew (w.heap.size+2) (J1 t a.length A) a:=q3R C;have a1:Row1 wr.drew (w.heap.size+2) (J1 M p.length N) p:=q3R s;clear P8 C s
     go_region_law (first
      | (refine z0H rfl ?_;go_simp;go_at_call 46;refine (z2O b Y sa y _ 1 _ b5.T rfl (by omega) HY.out).mono ?_;rintro e we⟨rfl,f5,Z⟩;have Pe:=b5.num f5 Z;have U:q2u we (w.heap.size+2) (J1 t a.length A) a:=z7V a0 Z B;have V:Row1 we (w.heap.size+2) (J1 M p.length N) p:=z7V a1 Z B;have i4:=Pe.Bx.cells;have e8:=Pe.big;have i5:w.heap.size+1<we.heap.size:=Pe.big;clear f5 Z)
      | (refine step_append_lies _ rfl _ _ 45 rfl (w.heap.size+2) 3 j0 (J I 0) 1 8 underlying45 hj g3 g5 g6 rfl (by decide) _ _ _ rfl (World.ownsRow.alloc V _) ⟨we.heap.size,0,none⟩ 1 1 [J I y] rfl rfl (cell_one_new _ _ _) (by intro u hu;simp at hu;subst hu;rfl) (by decide) (by unfold maxLen;omega) (by omega) (by simp;omega) _ rfl ?_;intro g cap wf hown r f6 j4;have Pf:=(Pe.alloc (Obj.cells #[Value.int IntKind.i64 y] 3)).own r (fun j hj=>(World.ownsRow.lt V j hj).1);have i6:=Pf.Bx.cells))
     all_goals
      have a2:q2u wf (w.heap.size+2) (J1 t a.length A) a:=World.ownsRow.kept (World.ownsRow.alloc U _) r HN.out;have a3:Row1 wf (w.heap.size+2) (J1 (some ⟨g,0,none⟩) (p.length+1) cap) (p ++ [y]):=by simpa [Row1] using hown
      have f7:(Value.slice t a.length A).ownBlock=none∨(Value.slice t a.length A).ownBlock≠(Value.slice (some ⟨g,0,none⟩) (p.length+1) cap).ownBlock:=by
       rcases f6 with h | h
       ·have e:(Value.slice (some ⟨g,0,none⟩) (p.length+1) cap).ownBlock=(Value.slice M p.length N).ownBlock:=h.symm;rw[e];exact HN.out
       ·right
        intro e;have e2:(Value.slice t a.length A).ownBlock=some g:=e;have:=(World.ownsRow.lt U _ e2).2
        simp at h
        omega
      have HP:Hid _:=(Pf.set (J1 (some ⟨g,0,none⟩) (p.length+1) cap)).2.2.2.2.2;have i7:Hid _:=z4h (c:=w.heap.size+1) (o:=5) (u:=J1 (some ⟨g,0,none⟩) (p.length+1) cap) a2 (by omega)
      have i8:Hid _:=z4h (c:=w.heap.size+1) (o:=5) (u:=J1 (some ⟨g,0,none⟩) (p.length+1) cap) a3 (by omega)
      have i9:Hid _:=f7;clear hown r f6 a2 a3 U V i4 i6 Pe Pf f7 a0 a1 b5 c0 c1 c2 c3 F H K;go_wp2;go_roundw
      case rel =>
       refine⟨q+1,p ++ [y],sa,_,by omega,by go_num,HP.out,i7.out,i8.out,i9,by rw[List.length_append,i3.out];rfl,?_,?_⟩
       ·rw[<- S.out,List.append_assoc];exact HT.out.2.1
       ·rw[<- S.out];exact HT.out.2.2
      case measure=>simp[intOf];omega
    ·have j1:q=dn:=by omega
     subst j1;have l:=P.out;rw[Nat.sub_self,tkD,List.append_nil]at l;obtain⟨j2,rfl,rfl⟩:=l;clear P j2;obtain⟨M,N,rfl⟩:=z3N s;obtain⟨c0,c1,c2,c3,F,H,K⟩:=P8.Bx.cells;obtain⟨d0,d1,d2,d3,d4,d5,df⟩:=P8.Rs.cells
     have hex:∀ o,o<6->∃ u,wr.cell? ⟨w.heap.size,o,none⟩=some u:=fun o ho=>by
      match o,ho with
      | 0,_=>exact⟨_,d0⟩
      | 1,_=>exact⟨_,d1⟩
      | 2,_=>exact⟨_,d2⟩
      | 3,_=>exact⟨_,d3⟩
      | 4,_=>exact⟨_,d4⟩
      | 5,_=>exact⟨_,d5⟩
     have j3:Hid _:=hex;clear hex;have HF:Hid (q2u wr (w.heap.size+2) (J1 t a.length A) a/\Row1 wr (w.heap.size+2) (J1 M p.length N) p/\TS wr b Y/\w.grownBy wr (some b)):=⟨C,s,P8.T,P8.G⟩;clear C s P8;go_wp2
     show bodyPost prog f28 _ Exit.ret _ (z3V wr w.heap.size (J I k) (J I i) (J I v) (J I n) (J1 t a.length A) (J1 M p.length N))
     obtain⟨e0,e1,e2,e3,e4,e5⟩:=z5k (w:=wr) (b:=w.heap.size) (J I k) (J I i) (J I v) (J I n) (J1 t a.length A) (J1 M p.length N) j3.out;have q2:q2u (z3V wr w.heap.size (J I k) (J I i) (J I v) (J I n) (J1 t a.length A) (J1 M p.length N)) (w.heap.size+2) (J1 t a.length A) a:=q4B _ _ _ _ _ _ HF.out.1 (by omega)
     have q1:Row1 (z3V wr w.heap.size (J I k) (J I i) (J I v) (J I n) (J1 t a.length A) (J1 M p.length N)) (w.heap.size+2) (J1 M p.length N) p:=q4B _ _ _ _ _ _ HF.out.2.1 (by omega)
     have q3:=TS.z3V (c:=w.heap.size) (J I k) (J I i) (J I v) (J I n) (J1 t a.length A) (J1 M p.length N) HF.out.2.2.1 (by omega)
     have q4:=q6G (c:=w.heap.size) (J I k) (J I i) (J I v) (J I n) (J1 t a.length A) (J1 M p.length N) HF.out.2.2.2 (Nat.le_refl _);generalize z3V wr w.heap.size (J I k) (J I i) (J I v) (J I n) (J1 t a.length A) (J1 M p.length N)=w9 at *;exact bodyPost_ret (v:=J4 #[J I k,J I i,J I v,J I n,J1 t a.length A,J1 M p.length N]) (by simp[results,results28,go_sem,e0,e1,e2,e3,e4,e5]) rfl ⟨_,_,rfl,q2,q1,q3,q4⟩
def Bytes(l:List Int):Prop:=∀ c∈l,0<=c/\c<256
theorem z4l{m:Nat}{st:List Int×Bool}(h:Bytes st.1):Bytes (tk m st).2.1:=by
 unfold tk
 split
 ·intro c hc;simp at hc
 ·intro c hc;exact h c (List.mem_of_mem_drop hc)
theorem j4q{st:List Int×Bool}(h:Bytes st.1):0<=(tk 1 st).1/\(tk 1 st).1<256:=by
 unfold tk
 split
 ·simp
 ·rename_i hl
  match hs:st.1,hl with
  | c :: t,_ =>
   have:=h c (by rw[hs];exact List.mem_cons_self ..)
   simp[z4D];omega
theorem q7m:∀ (m:Nat) (st:List Int×Bool),Bytes st.1->Bytes (tkP m st).2.1:=by
 intro m
 induction m with
 | zero=>intro st h;exact h
 | succ m ih=>intro st h;exact ih _ (z4l (z4l h))
def p1(l:List Int):Int×(List Int×Bool):=tk 1 (l,false)
def p2(l:List Int):Int×(List Int×Bool):=tk 6 (p1 l).2
def p3(l:List Int):Int×(List Int×Bool):=tk 1 (p2 l).2
def p4(l:List Int):Int×(List Int×Bool):=tk 7 (p3 l).2
def p5(l:List Int):Int×(List Int×Bool):=tk 1 (p4 l).2
def p6(l:List Int):List (Int×Int)×(List Int×Bool):=tkP (p5 l).1.toNat (p5 l).2
def p7(l:List Int):Int×(List Int×Bool):=tk 1 (p6 l).2
def p8(l:List Int):List Int×(List Int×Bool):=tkD (p7 l).1.toNat (p7 l).2
def parse(l:List Int):(Int×Int×Int×Int×List (Int×Int)×List Int)×(List Int×Bool):=(((p1 l).1,(p2 l).1,(p3 l).1,(p4 l).1,(p6 l).1,(p8 l).1),(p8 l).2)
theorem z7d(l:List Int)(h:Bytes l):0<=(p5 l).1/\(p5 l).1<256/\0<=(p7 l).1/\(p7 l).1<256:=by
 have h1:Bytes (p1 l).2.1:=by unfold p1;exact z4l h
 have h2:Bytes (p2 l).2.1:=by unfold p2;exact z4l h1
 have h3:Bytes (p3 l).2.1:=by unfold p3;exact z4l h2
 have a:Bytes (p4 l).2.1:=by unfold p4;exact z4l h3
 have d:Bytes (p5 l).2.1:=by unfold p5;exact z4l a
 have b:0<=(p5 l).1/\(p5 l).1<256:=by unfold p5;exact j4q a
 have e:Bytes (p6 l).2.1:=by unfold p6;exact q7m _ _ d
 have c:0<=(p7 l).1/\(p7 l).1<256:=by unfold p7;exact j4q e
 exact⟨b.1,b.2,c.1,c.2⟩
def z4x(l:List Int):Int:=if (parse l).2=([],false) then z0n (parse l).1.1 (parse l).1.2.1 (parse l).1.2.2.1 (parse l).1.2.2.2.1 (parse l).1.2.2.2.2.1 (parse l).1.2.2.2.2.2 else 1
def z2w(l:List Int):Int×Int×Int×Int×List (Int×Int)×List Int:=if z4x l=0 then (parse l).1 else (0,0,0,0,[],[])
theorem flat_get(l:List (Int×Int)):∀ i,i<l.length->(l.flatMap fun p=>[Value.int .i64 p.1,Value.int .i64 p.2])[i * 2]?=some (J I (l.getD i (0,0)).1)/\(l.flatMap fun p=>[Value.int .i64 p.1,Value.int .i64 p.2])[i * 2+1]?=some (J I (l.getD i (0,0)).2):=by
 induction l with
 | nil=>intro i b;simp at b
 | cons a t ih =>
  intro i b
  match i with
  | 0=>simp
  | i+1 =>
   have:=ih i (by simpa using b)
   rw[List.flatMap_cons,show (i+1) * 2=i * 2+1+1 by omega]
   simpa using this
theorem q2u.lies{w:World}{B:Nat}{u:Value}{l:List (Int×Int)}(h:q2u w B u l):∃ a c g,u=J1 a l.length c/\l.length<=maxLen/\(0<l.length->a=some ⟨g,0,none⟩)/\z5D w g 0 l/\(0<l.length->B<=g)/\((a=none->c=0)/\l.length<=c):=by
 rcases h.2 with⟨rfl,h0⟩ | ⟨g,cap,cur,rfl,hb,hh,hn,hm,hs,ht⟩
 ·exact⟨none,0,0,by rw[h0],by omega,by omega,fun i b=>by omega,by omega,fun _=>rfl,by omega⟩
 ·refine⟨_,cap,g,rfl,by omega,fun _=>rfl,fun i b=>?_,fun _=>hb,fun h=>(by cases h),hn⟩
  have h':w.ownsRow B 65 2 (J1 (some ⟨g,0,none⟩) l.length cap) l.length (l.flatMap fun p=>[Value.int .i64 p.1,Value.int .i64 p.2]):=h;rw[Nat.zero_add,h'.cellAt _ (by omega),h'.cellAt _ (by omega)]
  exact flat_get l i b
theorem Row1.lies{w:World}{B:Nat}{u:Value}{l:List Int}(h:Row1 w B u l):∃ a c g,u=J1 a l.length c/\l.length<=maxLen/\(0<l.length->a=some ⟨g,0,none⟩)/\z1i w g 0 l/\(0<l.length->B<=g)/\((a=none->c=0)/\l.length<=c):=by
 rcases h.2 with⟨rfl,h0⟩ | ⟨g,cap,cur,rfl,hb,hh,hn,hm,hs,ht⟩
 ·exact⟨none,0,0,by rw[h0],by omega,by omega,fun i b=>by omega,by omega,fun _=>rfl,by omega⟩
 ·refine⟨_,cap,g,rfl,by omega,fun _=>rfl,fun i b=>?_,fun _=>hb,fun h=>(by cases h),hn⟩
  have h':w.ownsRow B 3 1 (J1 (some ⟨g,0,none⟩) l.length cap) l.length (l.map (Value.int .i64)):=h;rw[Nat.zero_add,h'.cellAt _ (by omega)]
  simp[List.getD,b]
theorem q1Q(b:Nat)(l:List Int)(w:World)(x:TS w b (l,false))(y:Bytes l) :
  Calls prog 28 #[J2 (some ⟨b,0,none⟩)] w fun e w'=>∃ u d,e=.returned (J4 #[J I (parse l).1.1,J I (parse l).1.2.1,J I (parse l).1.2.2.1,J I (parse l).1.2.2.2.1,u,d])/\q2u w' (w.heap.size+2) u (parse l).1.2.2.2.2.1/\Row1 w' (w.heap.size+2) d (parse l).1.2.2.2.2.2/\TS w' b (parse l).2/\w.grownBy w' (some b):=by
 obtain⟨q,s,r,t⟩:=z7d l y
 rcases a:p1 l with⟨k,s1⟩
 rcases f:p2 l with⟨i,s2⟩
 rcases g:p3 l with⟨v,s3⟩
 rcases h:p4 l with⟨n,s4⟩
 rcases j:p5 l with⟨c,s5⟩
 rcases m:p6 l with⟨S,s6⟩
 rcases o:p7 l with⟨d,s7⟩
 rcases p:p8 l with⟨D,s8⟩
 have z:parse l=((k,i,v,n,S,D),s8):=by rw[parse,a,f,g,h,m,p]
 rw[z];rw[j]at q s;rw[o]at r t;rw[p1]at a;rw[p2,p1,a]at f;rw[p3,p2,p1,a,f]at g;rw[p4,p3,p2,p1,a,f,g]at h;rw[p5,p4,p3,p2,p1,a,f,g,h]at j;rw[p6,p5,p4,p3,p2,p1,a,f,g,h,j]at m;rw[p7,p6,p5,p4,p3,p2,p1,a,f,g,h,j,m]at o;rw[p8,p7,p6,p5,p4,p3,p2,p1,a,f,g,h,j,m,o]at p;dsimp only at q s r t m p;refine q6S b (l,false) s1 s2 s3 s4 s5 s6 s7 s8 k i v n c.toNat d.toNat S D w x a f g h ?_ m ?_ p (by omega) (by omega)
 ·rw[Int.toNat_of_nonneg q];exact j
 ·rw[Int.toNat_of_nonneg r];exact o
theorem z2Y.six{w:World}{b:Nat}{k i v n s d:Value}(h:z2Y w b k i v n s d):∀ o,o<6->∃ u,w.cell? ⟨b,o,none⟩=some u:=fun o a=>by
 obtain⟨c,e,f,g,j,l,_⟩:=h.cells
 match o,a with
 | 0,_=>exact⟨_,c⟩
 | 1,_=>exact⟨_,e⟩
 | 2,_=>exact⟨_,f⟩
 | 3,_=>exact⟨_,g⟩
 | 4,_=>exact⟨_,j⟩
 | 5,_=>exact⟨_,l⟩
theorem j6q{w w1:World}{k i v n s d:Value}(g:z2Y w1 w.heap.size k i v n s d)(h:Bl w w1)(v0 v1 v2 v3 c e:Value)(o:Obj) :
  ((z3V w1 w.heap.size v0 v1 v2 v3 c e).alloc o).cell? ⟨w.heap.size,0,none⟩=some v0/\((z3V w1 w.heap.size v0 v1 v2 v3 c e).alloc o).cell? ⟨w.heap.size,1,none⟩=some v1/\((z3V w1 w.heap.size v0 v1 v2 v3 c e).alloc o).cell? ⟨w.heap.size,2,none⟩=some v2 /\
  ((z3V w1 w.heap.size v0 v1 v2 v3 c e).alloc o).cell? ⟨w.heap.size,3,none⟩=some v3/\((z3V w1 w.heap.size v0 v1 v2 v3 c e).alloc o).cell? ⟨w.heap.size,4,none⟩=some c/\((z3V w1 w.heap.size v0 v1 v2 v3 c e).alloc o).cell? ⟨w.heap.size,5,none⟩=some e /\
  Bl w ((z3V w1 w.heap.size v0 v1 v2 v3 c e).alloc o):=by
 obtain⟨f,j,l,m,q,r⟩:=z5k (w:=w1) (b:=w.heap.size) v0 v1 v2 v3 c e g.six;have hb:=z0A (z3V w1 w.heap.size v0 v1 v2 v3 c e) o;have a:w.heap.size<(z3V w1 w.heap.size v0 v1 v2 v3 c e).heap.size:=World.block_lt_of_cell? _ _ f
 exact⟨(hb.cell (p:=⟨w.heap.size,0,none⟩) a).trans f,(hb.cell (p:=⟨w.heap.size,1,none⟩) a).trans j,(hb.cell (p:=⟨w.heap.size,2,none⟩) a).trans l,(hb.cell (p:=⟨w.heap.size,3,none⟩) a).trans m,(hb.cell (p:=⟨w.heap.size,4,none⟩) a).trans q,(hb.cell (p:=⟨w.heap.size,5,none⟩) a).trans r,
  z2g (z3X v0 v1 v2 v3 c e h (Nat.le_refl _)) hb⟩
theorem q4O(w:World):q7h w [] [] none none 0 0 0 0:=⟨by simp,by simp,by simp,by simp,fun i a=>absurd a (by simp),fun i a=>absurd a (by simp)⟩
theorem q7h.z3V{w:World}{S:List (Int×Int)}{D:List Int}{sa da:Option Addr}{sb so db dO:Nat}(L:q7h w S D sa da sb so db dO)(c:Nat)(hc:(0<S.length->sb≠c)/\(0<D.length->db≠c))(v0 v1 v2 v3 a b:Value):q7h (z3V w c v0 v1 v2 v3 a b) S D sa da sb so db dO:=by
 refine⟨L.hls,L.hld,L.hsa,L.hda,fun i d=>?_,fun i d=>?_⟩
 ·have h:=L.PS i d;exact⟨(cell_of_heap (z6y v0 v1 v2 v3 a b (hc.1 (by omega))) _).trans h.1,(cell_of_heap (z6y v0 v1 v2 v3 a b (hc.1 (by omega))) _).trans h.2⟩
 ·exact (cell_of_heap (z6y v0 v1 v2 v3 a b (hc.2 (by omega))) _).trans (L.PD i d)
def Rm(B:Nat)(a:Option Addr)(n c g:Nat):Prop:=(a=none->c=0)/\n<=c/\(0<n->B<=g)
theorem j5i(B:Nat):Rm B none ([]:List (Int×Int)).length 0 0/\Rm B none ([]:List Int).length 0 0:=⟨⟨fun _=>rfl,by simp,by simp⟩,⟨fun _=>rfl,by simp,by simp⟩⟩
theorem z6X(s:ByteArray)(w:World)(hs:s.size<=maxLen) :
  Calls prog 16 #[.string s] w fun e w'=>∃ sa da cs cd sb so db dO,
   e=.returned (.tuple #[J4 #[J I (z2w (bs s)).1,J I (z2w (bs s)).2.1,J I (z2w (bs s)).2.2.1,J I (z2w (bs s)).2.2.2.1,J1 sa (z2w (bs s)).2.2.2.2.1.length cs,J1 da (z2w (bs s)).2.2.2.2.2.length cd],J I (z4x (bs s))]) /\
   q7h w' (z2w (bs s)).2.2.2.2.1 (z2w (bs s)).2.2.2.2.2 sa da sb so db dO/\(Rm w.heap.size sa (z2w (bs s)).2.2.2.2.1.length cs sb/\Rm w.heap.size da (z2w (bs s)).2.2.2.2.2.length cd db)/\Bl w w':=by
 have T:Hid (z4x (bs s)=if (parse (bs s)).2=([],false) then z0n (parse (bs s)).1.1 (parse (bs s)).1.2.1 (parse (bs s)).1.2.2.1 (parse (bs s)).1.2.2.2.1 (parse (bs s)).1.2.2.2.2.1 (parse (bs s)).1.2.2.2.2.2 else 1):=rfl;have F:Hid (z2w (bs s)=if z4x (bs s)=0 then (parse (bs s)).1 else (0,0,0,0,[],[])):=rfl;generalize z4x (bs s)=E at *;generalize z2w (bs s)=R at *;have U:=fun (w:World) (b:Nat) (h:TS w b (bs s,false))=>q1Q b (bs s) w h (q0l s);have H:Hid _:=U;clear U;generalize parse (bs s)=pr at *;obtain⟨⟨k,i,v,n,S,D⟩,st⟩:=pr;dsimp only at T F H
 go_enter func16,ntmps16
 go_wp2_with fail
 have V:TS ((w.alloc (Obj.cells #[Value.int IntKind.i64 0,Value.int IntKind.i64 0,Value.int IntKind.i64 0,Value.int IntKind.i64 0,Value.slice none 0 0,Value.slice none 0 0] 68)).alloc (Obj.cells #[Value.string s,Value.bool false] 106)) (w.heap.size+1) (bs s,false):=by
  refine⟨s,?_,rfl,hs⟩;unfold TAt;have e:w.heap.size+1=(w.alloc (Obj.cells #[Value.int IntKind.i64 0,Value.int IntKind.i64 0,Value.int IntKind.i64 0,Value.int IntKind.i64 0,Value.slice none 0 0,Value.slice none 0 0] 68)).heap.size:=by simp
  rw[e];exact heap_alloc_new _ _
 refine (H.out _ _ V).mono ?_;rintro e w1⟨u,d,rfl,W,X,a6,y⟩;have c6:w.heap.size+2<=w1.heap.size:=by have:=y.size;simpa using this
 have z:Bl w w1:=by
  have a7:Bl w ((w.alloc (Obj.cells #[Value.int IntKind.i64 0,Value.int IntKind.i64 0,Value.int IntKind.i64 0,Value.int IntKind.i64 0,Value.slice none 0 0,Value.slice none 0 0] 68)).alloc (Obj.cells #[Value.string s,Value.bool false] 106)):=(z0A w _).alloc (by simp) _
  exact a7.grown y (by simp;omega) (fun k hk=>by cases hk;omega)
 have p:z2Y w1 w.heap.size (J I 0) (J I 0) (J I 0) (J I 0) (J1 none 0 0) (J1 none 0 0):=by
  refine z2Y.keep (w:=(w.alloc (Obj.cells #[Value.int IntKind.i64 0,Value.int IntKind.i64 0,Value.int IntKind.i64 0,Value.int IntKind.i64 0,Value.slice none 0 0,Value.slice none 0 0] 68)).alloc (Obj.cells #[Value.string s,Value.bool false] 106)) ?_ y (by simp)
  exact (Below.heap_alloc _ _ _ (by simp)).trans (heap_alloc_new _ _)
 obtain⟨g,l,Y,rfl,l1,l2,l3,l4,l5⟩:=W.lies;obtain⟨j,m,Z,rfl,m1,m2,m3,m4,m5⟩:=X.lies;have a8:Hid (Rm w.heap.size g S.length l Y/\Rm w.heap.size j D.length m Z):=⟨⟨l5.1,l5.2,fun h=>by have:=l4 h;simp at this;omega⟩,⟨m5.1,m5.2,fun h=>by have:=m4 h;simp at this;omega⟩⟩
 clear l5 m5;have A:Hid ((0<S.length->Y≠w.heap.size)/\(0<D.length->Z≠w.heap.size)):=⟨fun h e=>by have:=l4 h;simp at this;omega,fun h e=>by have:=m4 h;simp at this;omega⟩
 have L1:q7h w1 S D g j Y 0 Z 0:=⟨l1,m1,l2,m2,l3,m3⟩;obtain⟨r,B,a0,a9⟩:=a6;clear W X l1 l2 l3 l4 m1 m2 m3 m4 y H V;obtain⟨rest,sh⟩:=st;dsimp only at B a0;subst a0;obtain⟨t0,t1,b4,b5⟩:=B.cells;have b8:w.heap.size<w1.heap.size:=by omega
 have b9:w.heap.size+1<w1.heap.size:=by omega
 obtain⟨d0,d1,d2,d3,d4,d5,df⟩:=p.cells;unfold maxLen at a9
 by_cases o:(bs r,sh)=(([]:List Int),false)
 ·have c:Hid (E=z0n k i v n S D):=by show _=_;rw[T.out,if_pos o]
  obtain⟨a1,rfl⟩:=Prod.mk.inj o;have a2:r.size=0:=by rw[<- z2M,a1];rfl
  have hn:((r.size:Int) != 0)=false:=by rw[a2];rfl
  clear T o a1 a2;have K:=L1.later (z0A w1 (Obj.cells #[Value.int IntKind.i64 k,Value.int IntKind.i64 i,Value.int IntKind.i64 v,Value.int IntKind.i64 n,Value.slice g S.length l,Value.slice j D.length m] 68));have q:=z0p k i v n S D g j l m Y 0 Z 0 _ K.hls K.hld K.hsa K.hda K.PS K.PD;have a3:=q4g w1 k i v n (J1 g S.length l) (J1 j D.length m)
  go_wp2_with fail
  refine q.mono ?_;rintro e L⟨rfl,M⟩;have N:=a3.later M (by simp)
  have f:=z3b M;have L2:=L1.later f;have C:=z2g z f;have t:z2Y L w.heap.size (J I 0) (J I 0) (J I 0) (J I 0) (J1 none 0 0) (J1 none 0 0):=p.keep (r:=none) ⟨f.os,f.tape,f.output,f.size,fun k hk _=>f.block k hk⟩ (by simp)
  clear q M a3 f L1 z p K t0 t1 b4 b5 d0 d1 d2 d3 d4 d5 df B;obtain⟨d0,d1,d2,d3,d4,d5,df⟩:=t.cells;obtain⟨c0,c1,c2,c3,c4,c5⟩:=id N
  by_cases Q:z0n k i v n S D=0
  ·have a:Hid (R=(k,i,v,n,S,D)):=by show _=_;rw[F.out,c.out,if_pos Q]
   have b6:Hid (E=0):=c.out.trans Q;rw[Q]at *;have HC:Hid _:=z5k (w:=L) (b:=w.heap.size) (J I k) (J I i) (J I v) (J I n) (J1 g S.length l) (J1 j D.length m) t.six;have x:Hid _:=z3X (b:=w.heap.size) (J I k) (J I i) (J I v) (J I n) (J1 g S.length l) (J1 j D.length m) C (Nat.le_refl _);have a4:Hid _:=L2.z3V w.heap.size A.out (J I k) (J I i) (J I v) (J I n) (J1 g S.length l) (J1 j D.length m);clear F c C t L2 A N;go_wp2
   show bodyPost prog f16 _ Exit.ret _ (z3V L w.heap.size (J I k) (J I i) (J I v) (J I n) (J1 g S.length l) (J1 j D.length m))
   obtain⟨e0,e1,e2,e3,e4,e5⟩:=HC.out;have P:=x.out;have b7:=a4.out;clear HC x a4;generalize z3V L w.heap.size (J I k) (J I i) (J I v) (J I n) (J1 g S.length l) (J1 j D.length m)=w9 at *
   exact bodyPost_ret (v:=.tuple #[J4 #[J I k,J I i,J I v,J I n,J1 g S.length l,J1 j D.length m],J I 0]) (by simp[results,results16,go_sem,e0,e1,e2,e3,e4,e5]) rfl
    ⟨g,j,l,m,Y,0,Z,0,by rw[b6.out,a.out],by rw[a.out];exact b7,by rw[a.out];exact a8.out,P⟩
  ·have a:Hid (R=(0,0,0,0,[],[])):=by show _=_;rw[F.out,c.out,if_neg Q]
   have c7:(z0n k i v n S D != 0)=true:=by simpa using Q
   have HC:Hid _:=z5k (w:=L) (b:=w.heap.size) (J I 0) (J I 0) (J I 0) (J I 0) (J1 none 0 0) (J1 none 0 0) t.six;have x:Hid _:=z3X (b:=w.heap.size) (J I 0) (J I 0) (J I 0) (J I 0) (J1 none 0 0) (J1 none 0 0) C (Nat.le_refl _);clear F C t L2 A N Q;generalize z0n k i v n S D=G at *;go_wp2
   show bodyPost prog f16 _ Exit.ret _ (z3V L w.heap.size (J I 0) (J I 0) (J I 0) (J I 0) (J1 none 0 0) (J1 none 0 0))
   obtain⟨e0,e1,e2,e3,e4,e5⟩:=HC.out;have P:=x.out;clear HC x;generalize z3V L w.heap.size (J I 0) (J I 0) (J I 0) (J I 0) (J1 none 0 0) (J1 none 0 0)=w9 at *
   exact bodyPost_ret (v:=.tuple #[J4 #[J I 0,J I 0,J I 0,J I 0,J1 none 0 0,J1 none 0 0],J I G]) (by simp[results,results16,go_sem,e0,e1,e2,e3,e4,e5]) rfl
    ⟨none,none,0,0,0,0,0,0,by rw[c.out,a.out];rfl,by rw[a.out];exact q4O _,by rw[a.out];exact j5i _,P⟩
 ·have c:Hid (E=1):=by show _=_;rw[T.out,if_neg o]
  have a:Hid (R=(0,0,0,0,[],[])):=by show _=_;rw[F.out,c.out,if_neg (by decide)]
  have a5:Hid _:=j6q p z (J I 0) (J I 0) (J I 0) (J I 0) (J1 none 0 0) (J1 none 0 0) (Obj.cells #[Value.int IntKind.i64 k,Value.int IntKind.i64 i,Value.int IntKind.i64 v,Value.int IntKind.i64 n,Value.slice g S.length l,Value.slice j D.length m] 68)
  have hn:sh=true∨(sh=false/\((r.size:Int) != 0)=true):=by
   cases sh with
   | true=>exact .inl rfl
   | false =>
    refine .inr ⟨rfl,?_⟩;have:r.size≠0:=fun h=>o (by rw[List.eq_nil_of_length_eq_zero (show (bs r).length=0 by rw[z2M];exact h)])
    rw[bne_iff_ne];omega
  clear T F o p z L1 A B
  rcases hn with rfl | ⟨rfl,hn⟩
  all_goals
   go_wp2
   show bodyPost prog f16 _ Exit.ret _ ((z3V w1 w.heap.size (J I 0) (J I 0) (J I 0) (J I 0) (J1 none 0 0) (J1 none 0 0)).alloc (Obj.cells #[Value.int IntKind.i64 k,Value.int IntKind.i64 i,Value.int IntKind.i64 v,Value.int IntKind.i64 n,Value.slice g S.length l,Value.slice j D.length m] 68))
   obtain⟨e0,e1,e2,e3,e4,e5,hB⟩:=a5.out;generalize (z3V w1 w.heap.size (J I 0) (J I 0) (J I 0) (J I 0) (J1 none 0 0) (J1 none 0 0)).alloc (Obj.cells #[Value.int IntKind.i64 k,Value.int IntKind.i64 i,Value.int IntKind.i64 v,Value.int IntKind.i64 n,Value.slice g S.length l,Value.slice j D.length m] 68)=w9 at *
   exact bodyPost_ret (v:=.tuple #[J4 #[J I 0,J I 0,J I 0,J I 0,J1 none 0 0,J1 none 0 0],J I 1]) (by simp[results,results16,go_sem,e0,e1,e2,e3,e4,e5]) rfl
    ⟨none,none,0,0,0,0,0,0,by rw[c.out,a.out];rfl,by rw[a.out];exact q4O _,by rw[a.out];exact j5i _,hB⟩
theorem q6q:∀ (t:List Int) (x:Int),z4D x t=x * 2 ^ (8 * t.length)+z4D 0 t:=by
 intro t
 induction t with
 | nil=>intro x;simp[z4D]
 | cons c t ih =>
  intro x;have h1:z4D x (c :: t)=z4D (x * 256+c) t:=rfl;have h2:z4D 0 (c :: t)=z4D (0 * 256+c) t:=rfl;rw[h1,h2,ih (x * 256+c),ih (0 * 256+c),List.length_cons,z7H,Int.add_mul,Int.zero_mul,Int.zero_add,Int.mul_assoc,Int.mul_comm 256];omega
theorem z6k(a:List Int)(h:Bytes a):∀ b:Int,be (z4D b a) a.length=a:=by
 induction a with
 | nil=>intro _;rfl
 | cons c t ih =>
  intro b;have d:Bytes t:=fun x e=>h x (List.mem_cons_of_mem _ e);have hc:=h c (List.mem_cons_self ..);have h1:z4D b (c :: t)=z4D (b * 256+c) t:=rfl;have hb:=z9k t 0 0 d (by omega) (by omega)
  rw[Nat.zero_add]at hb;rw[h1,List.length_cons,be,ih d (b * 256+c),q6q t (b * 256+c)]
  congr 1
  rw[Int.mul_comm,Int.add_comm,Int.add_mul_ediv_left _ _ (by have:=q5b t.length;omega),Int.ediv_eq_zero_of_lt hb.1 hb.2]
  omega
theorem z3U{m:Nat}{st:List Int×Bool}(h:(tk m st).2.2=false):st.2=false/\m<=st.1.length:=by
 unfold tk at h
 split at h
 ·cases h
 ·exact⟨h,by omega⟩
theorem z4r{m:Nat}{l:List Int}{x:Int}{b:List Int}(h:tk m (l,false)=(x,(b,false))):∃ a,a.length=m/\l=a ++ b/\x=z4D 0 a:=by
 have c:=z3U (m:=m) (st:=(l,false)) (by rw[h])
 rw[tk,if_neg (by have:=c.2;dsimp only at this ⊢;omega)]at h
 simp only[Prod.mk.injEq]at h;obtain⟨rfl,rfl,_⟩:=h;exact⟨l.take m,by rw[List.length_take];have:=c.2;dsimp only at this;omega,(List.take_append_drop m l).symm,rfl⟩
theorem q5d:∀ (m:Nat) {st:List Int×Bool},(tkP m st).2.2=false->st.2=false:=by
 intro m
 induction m with
 | zero=>intro st h;exact h
 | succ m ih=>intro st h;exact (z3U (z3U (ih h)).1).1
theorem q4r:∀ (m:Nat) {st:List Int×Bool},(tkD m st).2.2=false->st.2=false:=by
 intro m
 induction m with
 | zero=>intro st h;exact h
 | succ m ih=>intro st h;exact (z3U (ih h)).1
theorem j3M:∀ (m:Nat) {l d:List Int} {S:List (Int×Int)},Bytes l->tkP m (l,false)=(S,(d,false))->S.length=m/\l=S.flatMap z5p ++ d:=by
 intro m
 induction m with
 | zero=>intro l d S _ h;simp only[tkP,Prod.mk.injEq]at h;obtain⟨rfl,rfl,_⟩:=h;exact⟨rfl,rfl⟩
 | succ m ih =>
  intro l d S hb h
  rcases g:tk 1 (l,false) with⟨y,l1,f1⟩
  rcases e:tk 7 (l1,f1) with⟨z,l2,f2⟩
  rcases f:tkP m (l2,f2) with⟨T,l3,f3⟩
  rw[tkP,g]at h;dsimp only at h;rw[e]at h;dsimp only at h;rw[f]at h;simp only[Prod.mk.injEq]at h;obtain⟨rfl,rfl,rfl⟩:=h;have i:=q5d m (st:=(l2,f2)) (by rw[f])
  dsimp only at i;subst i;have j:=(z3U (m:=7) (st:=(l1,f1)) (by rw[e])).1
  dsimp only at j;subst j;obtain⟨a,k,rfl,rfl⟩:=z4r g;obtain⟨c,hc,rfl,rfl⟩:=z4r e;have n:Bytes a:=fun x b=>hb x (by simp[b])
  have o:Bytes c:=fun x b=>hb x (by simp[b])
  have b2:Bytes l2:=fun x b=>hb x (by simp[b])
  obtain⟨r1,r2⟩:=ih b2 f;refine⟨by simp[r1],?_⟩
  have q1:=z6k a n 0;have q2:=z6k c o 0;rw[k]at q1;rw[hc]at q2;rw[List.flatMap_cons,z5p];dsimp only;rw[q1,q2,List.append_assoc,List.append_assoc,<- r2]
theorem j1J:∀ (m:Nat) {l b:List Int} {D:List Int},Bytes l->tkD m (l,false)=(D,(b,false))->D.length=m/\l=D.flatMap (be · 1) ++ b:=by
 intro m
 induction m with
 | zero=>intro l b S _ h;simp only[tkD,Prod.mk.injEq]at h;obtain⟨rfl,rfl,_⟩:=h;exact⟨rfl,rfl⟩
 | succ m ih =>
  intro l b S hb h
  rcases e:tk 1 (l,false) with⟨y,l1,f1⟩
  rcases c:tkD m (l1,f1) with⟨T,l3,f3⟩
  rw[tkD,e]at h;dsimp only at h;rw[c]at h;simp only[Prod.mk.injEq]at h;obtain⟨rfl,rfl,rfl⟩:=h;have f:=q4r m (st:=(l1,f1)) (by rw[c])
  dsimp only at f;subst f;obtain⟨a,g,rfl,rfl⟩:=z4r e;have i:Bytes a:=fun x d=>hb x (by simp[d])
  have b2:Bytes l1:=fun x d=>hb x (by simp[d])
  obtain⟨r1,r2⟩:=ih b2 c;refine⟨by simp[r1],?_⟩
  have q1:=z6k a i 0;rw[g]at q1;rw[List.flatMap_cons,q1,List.append_assoc,<- r2]
theorem q5i{l r:List Int}{k i v n:Int}{S:List (Int×Int)}{D:List Int}(hb:Bytes l)(h:parse l=((k,i,v,n,S,D),(r,false))):l=enc k i v n S D ++ r:=by
 have b:=z7d l hb
 rcases e:p1 l with⟨x1,l1,f1⟩
 rcases f:p2 l with⟨x2,l2,f2⟩
 rcases g:p3 l with⟨x3,l3,f3⟩
 rcases j:p4 l with⟨x4,l4,f4⟩
 rcases o:p5 l with⟨c,l5,f5⟩
 rcases p:p6 l with⟨S',l6,f6⟩
 rcases q:p7 l with⟨d,l7,f7⟩
 rcases B:p8 l with⟨D',l8,f8⟩
 rw[parse,e,f,g,j,p,B]at h;simp only[Prod.mk.injEq]at h;obtain⟨⟨rfl,rfl,rfl,rfl,rfl,rfl⟩,rfl,rfl⟩:=h;rw[o,q]at b;dsimp only at b;have n1:=e;rw[p1]at n1;have s:=f;rw[p2,e]at s;dsimp only at s;have t:=g;rw[p3,f]at t;dsimp only at t;have u:=j;rw[p4,g]at u;dsimp only at u;have w:=o;rw[p5,j]at w;dsimp only at w;have y:=p;rw[p6,o]at y;dsimp only at y;have z:=q;rw[p7,p]at z;dsimp only at z;have A:=B;rw[p8,q]at A;dsimp only at A;clear e f g j o p q B;have g7:=q4r d.toNat (st:=(l7,f7)) (by rw[A])
 dsimp only at g7;subst g7;have C:=(z3U (m:=1) (st:=(l6,f6)) (by rw[z])).1
 dsimp only at C;subst C;have E:=q5d c.toNat (st:=(l5,f5)) (by rw[y])
 dsimp only at E;subst E;have g4:=(z3U (m:=1) (st:=(l4,f4)) (by rw[w])).1
 dsimp only at g4;subst g4;have F:=(z3U (m:=7) (st:=(l3,f3)) (by rw[u])).1
 dsimp only at F;subst F;have G:=(z3U (m:=1) (st:=(l2,f2)) (by rw[t])).1
 dsimp only at G;subst G;have H:=(z3U (m:=6) (st:=(l1,f1)) (by rw[s])).1
 dsimp only at H;subst H;obtain⟨Q,h1,rfl,rfl⟩:=z4r n1;obtain⟨R,h2,rfl,rfl⟩:=z4r s;obtain⟨T,h3,rfl,rfl⟩:=z4r t;obtain⟨U,V,rfl,rfl⟩:=z4r u;obtain⟨K,W,rfl,rfl⟩:=z4r w;have X:Bytes l5:=fun x a=>hb x (by simp[a])
 obtain⟨r1,r2⟩:=j3M _ X y;obtain⟨L,Y,rfl,rfl⟩:=z4r z;have Z:Bytes l7:=fun x a=>hb x (by rw[r2];simp[a])
 obtain⟨r3,r4⟩:=j1J _ Z A;have q1:=z6k Q (fun x a=>hb x (by simp[a])) 0
 have q2:=z6k R (fun x a=>hb x (by simp[a])) 0
 have q3:=z6k T (fun x a=>hb x (by simp[a])) 0
 have M:=z6k U (fun x a=>hb x (by simp[a])) 0
 have N:=z6k K (fun x a=>hb x (by simp[a])) 0
 have P:=z6k L (fun x a=>hb x (by rw[r2];simp[a])) 0
 rw[h1]at q1;rw[h2]at q2;rw[h3]at q3;rw[V]at M;rw[W]at N;rw[Y]at P;have w5:(S'.length:Int)=z4D 0 K:=by omega
 have w7:(D'.length:Int)=z4D 0 L:=by omega
 unfold enc q4j;rw[q1,q2,q3,M,w5,N,w7,P,r2,r4]
 simp
theorem q2b{l:List Int}(hb:Bytes l)(h:z4x l=0):z0n (z2w l).1 (z2w l).2.1 (z2w l).2.2.1 (z2w l).2.2.2.1 (z2w l).2.2.2.2.1 (z2w l).2.2.2.2.2=0/\enc (z2w l).1 (z2w l).2.1 (z2w l).2.2.1 (z2w l).2.2.2.1 (z2w l).2.2.2.2.1 (z2w l).2.2.2.2.2=l:=by
 have a:z2w l=(parse l).1:=by rw[z2w,if_pos h]
 rw[a];unfold z4x at h
 split at h
 ·rename_i h2
  rcases e:parse l with⟨⟨k',i',v',n',S',D'⟩,st⟩
  rw[e]at h h2;dsimp only at h2;subst h2;have h3:=q5i hb e;rw[List.append_nil]at h3;exact⟨h,h3.symm⟩
 ·cases h
end Cd
namespace Pv
open Go.RowKit
def isT(n:Int):Bool:=decide (0<=n) && decide (n<=1099511627776)
def z0X(l:List Int):Pkt:=⟨(Cd.z2w l).1,(Cd.z2w l).2.1,(Cd.z2w l).2.2.1,(Cd.z2w l).2.2.2.1,(Cd.z2w l).2.2.2.2.1,(Cd.z2w l).2.2.2.2.2⟩
theorem apR{P:Nat->Prop}(t e:TypeId)(i0:TypeInfo)(z:Value)(hu:prog.underlying t=some (.slice e))(p:prog.info? e=some i0)(f:i0.zero=some z)(w:World)(A:Option Addr)(n y bt:Nat)(cs c:List Value)(B:Rep P w (J1 A n n) i0.size bt cs)(hb:n * i0.bytes<=140737488351232)(l:0<i0.bytes)(D:i0.bytes<=1000)(q:c.length=i0.size)(E:∀ j v,c[j]?=some v->w.cell? ⟨y,j,none⟩=some v) :
  ∃ C w',(Builtin.append_ #[t,t] t #[J1 A n n,J1 (some ⟨y,0,none⟩) 1 1]).run prog w=.ok (J1 (some ⟨w.heap.size,0,none⟩) (n+1) C) w'/\n+1<=C/\(∀ j u,(cs ++ c)[j]?=some u->w'.cell? ⟨w.heap.size,j,none⟩=some u)/\Bl w w'/\w.heap.size<w'.heap.size:=by
 have d:∀ j v,c[j]?=some v->w.cell? ((⟨y,0,none⟩:Addr).add j)=some v:=fun j v k=>by rw[Addr.add_lit,Nat.zero_add];exact E j v k
 have r:n<=140737488351232:=by
  have:=Nat.le_mul_of_pos_right n l;omega
 obtain⟨A',G,C',h1,h2,h3,H,s⟩:=B;cases h1
 have new:∀ (arr tail:Array Value),arr.toList=cs ++ c->∀ j u,(cs ++ c)[j]?=some u->(w.drew.alloc (J5 (arr ++ tail) e)).cell? ⟨w.heap.size,j,none⟩=some u:=fun arr tail F j u x=>by
  have g:arr[j]?=some u:=by rw[<- F]at x;simpa using x
  have m:=(Array.getElem?_eq_some_iff.1 g).1;have h:(w.drew.alloc (J5 (arr ++ tail) e)).heap[w.heap.size]?=some (J5 (arr ++ tail) e):=heap_alloc_new w.drew _;simp only[World.cell?,h];rw[Array.getElem?_append_left m]
  simp[g]
 cases A with
 | none =>
  have h0:n=0:=by
   rcases Nat.eq_zero_or_pos n with h | h
   ·exact h
   ·obtain⟨b,off,e,_⟩:=s h;cases e
  subst h0;have o:cs=[]:=List.length_eq_zero_iff.1 (by rw[h2,Nat.zero_mul])
  subst o;refine⟨_,_,run_append_nil (P:=prog) w t t e i0 z hu p f ⟨y,0,none⟩ 1 1 c (by rw[q,Nat.one_mul]) d (by omega) (by omega) (by omega),grownCap_ge _ _ _ _,?_,(Below.refl _ w).drew.alloc (Nat.le_refl _) _,by simp⟩
  exact new _ _ (by simp)
 | some a =>
  have hold:∀ j v,cs[j]?=some v->w.cell? (a.add j)=some v:=fun j v k=>by
   have h0:0<n:=by
    rcases Nat.eq_zero_or_pos n with h | h
    ·subst h;have:=(List.getElem?_eq_some_iff.1 k).1;rw[h2,Nat.zero_mul]at this;omega
    ·exact h
   obtain⟨b,off,e,_,_,hc⟩:=s h0;cases e;rw[Addr.add_lit];exact hc j v k
  have i:Builtin.nextslicecap (n+1) n * i0.bytes<=281474976710656:=by
   rcases Nat.eq_zero_or_pos n with rfl | hp
   ·rw[nextslicecap_zero (by omega)];omega
   ·have:=Nat.mul_le_mul_right i0.bytes (nextslicecap_succ hp);rw[Nat.mul_assoc]at this;omega
  refine⟨_,_,run_append_grow (P:=prog) w t t e i0 z hu p f a n n cs h2 hold ⟨y,0,none⟩ 1 1 c (by rw[q,Nat.one_mul]) d (by omega) (by omega) i,grownCap_ge _ _ _ _,?_,(Below.refl _ w).drew.alloc (Nat.le_refl _) _,by simp⟩
  exact new _ _ (by simp)
theorem Rep.clip{P:Nat->Prop}{w:World}{A:Option Addr}{n C sz bts:Nat}{cs:List Value}(h:Rep P w (J1 A n C) sz bts cs):Rep P w (J1 A n n) sz bts cs:=by
 obtain⟨A',c,C',h1,h2,h3,a,b⟩:=h;cases h1;refine⟨A,n,n,rfl,h2,h3,⟨fun e=>?_,Nat.le_refl _⟩,b⟩;have:=a.1 e;omega
theorem q0X{P:Nat->Prop}{w:World}{A:Option Addr}{C sz bts:Nat}(h:A=none->C=0):Rep P w (J1 A 0 C) sz bts []:=⟨A,0,C,rfl,by simp,by simp,⟨h,Nat.zero_le _⟩,fun h=>absurd h (by omega)⟩
theorem j3Y{k i v n:Int}{S:List (Int×Int)}{D:List Int}(h:Cd.z0n k i v n S D=0):(1<=k/\k<=4)/\(1<=i/\i<=1099511627776)/\(k=3∨k=4->0<=v/\v<6)/\(k≠1->S=[]/\D=[]):=by
 unfold Cd.z0n at h
 by_cases h1:k<1∨4<k
 ·rw[if_pos h1]at h;exact absurd h (by decide)
 rw[if_neg h1]at h
 by_cases h2:i<1∨1099511627776<i
 ·rw[if_pos h2]at h;exact absurd h (by decide)
 rw[if_neg h2]at h
 by_cases h3:Cd.z7j k=true/\(Cd.isV v=false∨n<1∨1125899906842624<n)
 ·rw[if_pos h3]at h;exact absurd h (by decide)
 rw[if_neg h3]at h
 by_cases e:Cd.z8w k v n S.length D.length=true
 ·rw[if_pos e]at h;exact absurd h (by decide)
 refine⟨by omega,by omega,fun a=>?_,fun a=>?_⟩
 ·have f:Cd.z7j k=true:=by
   unfold Cd.z7j
   rcases a with rfl | rfl <;> rfl
  by_cases b:Cd.isV v=false
  ·exact absurd ⟨f,.inl b⟩ h3
  ·unfold Cd.isV at b;simpa using b
 ·have c:(k != 1 && ((S.length:Int) != 0 || (D.length:Int) != 0))=false:=by
   have:Cd.z8w k v n S.length D.length=false:=by simpa using e
   unfold Cd.z8w at this;simp only[Bool.or_eq_false_iff]at this
   simpa using this.2
  have d:(k != 1)=true:=by simpa using a
  rw[d,Bool.true_and,Bool.or_eq_false_iff]at c;have g:S.length=0:=by have:=c.1;simp at this;simp[this]
  have j:D.length=0:=by have:=c.2;simp at this;simp[this]
  exact⟨List.length_eq_zero_iff.1 g,List.length_eq_zero_iff.1 j⟩
end Pv
section
open Go.RowKit
def pwr(x:Vd):Int:=x.tok / 100
def z4Z(V:Nat->Vd):Nat->List Pw
 | 0=>[]
 | k+1=>if (decide (0<pwr (V k)) && !(V k).jail)=true then z4Z V k ++ [((k:Int),pwr (V k))] else z4Z V k
def z7C(V:Nat->Vd):List Pw:=z2U ltV ((z2U ltP (z4Z V 6)).take 4)
theorem z5C(V:Nat->Vd):∀ k,(z4Z V k).length<=k
 | 0=>by simp[z4Z]
 | k+1=>by
  have:=z5C V k;rw[z4Z]
  split
  ·simp;omega
  ·omega
theorem z2H(lt:Pw->Pw->Bool)(l:List Pw):(z2U lt l).length=l.length:=z1Z _ _ _
theorem z1W.take{w:World}{g:Nat}{l:List Pw}(h:z1W w g l)(n:Nat):z1W w g (l.take n):=by
 obtain⟨b,hc,c⟩:=h;exact⟨b,hc,fun i x a=>c i x (by rw[List.getElem?_take]at a;split at a;exact a;simp at a)⟩
theorem j2q(s:St)(sl:Value)(w:World)(z:∀ k,k<6->inA (s.V k).tok=true) :
  Calls prog 79 #[J4 (stC s sl)] w fun e w'=>∃ v,e=.returned v/\y2X w' w.heap.size v (z7C s.V)/\Bl w w':=by
 obtain⟨i0,S,A,C,D⟩:=info_parts q9H;have t:=SAt.new w (stC s sl);have E:Hid (Bl w (w.alloc (J5 (stC s sl) 43))):=znw w _
 go_enter func79,ntmps79
 go_upto_region 1 with fail
 generalize w.alloc (J5 (stC s sl) 43)=w0 at *;have N:w.heap.size<w0.heap.size:=t.lt
 go_wp2_with fail
 go_loopw [3,7] (fun v i wl=>∃ k:Nat,k<=6/\i=J I (k:Int)/\z6t wl w0.heap.size v (z4Z s.V k)/\Hid (Bl w0 wl)) (fun _ i _=>(6 - intOf i).toNat)
 case atStart=>exact⟨0,by omega,rfl,z6t.nil _ _,Below.refl _ _⟩
 case round =>
  obtain⟨k,hk,rfl,hown,o⟩:=hrel;have F:w0.heap.size<=wr.heap.size:=o.out.size
  by_cases q:k<6
  ·have P:=t.later o.out N;obtain⟨c0,c1,c2,c3,T⟩:=P.val k q;have U:(k:Int)<6:=by omega
   have W:=z0I.1 (z k q);have x:Hid (z4Z s.V (k+1)=if (decide (0<pwr (s.V k)) && !(s.V k).jail)=true then z4Z s.V k ++ [((k:Int),pwr (s.V k))] else z4Z s.V k):=rfl;have Q:=z5C s.V k;have hp:pwr (s.V k)=(s.V k).tok / 100:=rfl;rw[hp]at x;clear c1 c2 T P hp;generalize (s.V k).jail=jj at *;generalize (s.V k).tok=tt at *
   go_wp2_with (at_builtin;refine wpList_append_own_at _ rfl _ _ 44 rfl w0.heap.size 65 i0 (J4 #[J I 0,J I 0]) 2 16 underlying44 S A C D rfl (by decide) _ _ _ rfl (World.ownsRow.alloc hown _) ⟨wr.heap.size,0,none⟩ 1 1 [J I (k:Int),J I (tt / 100)] rfl rfl (q2L _ _ _ _) (by intro u hu;simp at hu;rcases hu with rfl | rfl <;> rfl) (by unfold maxLen;omega) (by omega) (by simp;omega) ?_;intro v' w1 j l _ X)
   ·have hb:Bl w0 w1:=z6t.grow hown o.out l (Nat.le_refl _) F;have hc:z4Z s.V (k+1)=z4Z s.V k ++ [((k:Int),tt / 100)]:=by rw[x.out,if_pos (by simp_all)]
    refine⟨⟨k+1,by omega,by go_num,?_,hb⟩,by simp[intOf];omega⟩
    rw[hc];exact z6t.append j rfl
   ·have hc:z4Z s.V (k+1)=z4Z s.V k:=by rw[x.out,if_neg (by simp_all)]
    exact⟨⟨k+1,by omega,by go_num,by rw[hc];exact hown,o.out⟩,by simp[intOf];omega⟩
   ·have hc:z4Z s.V (k+1)=z4Z s.V k:=by rw[x.out,if_neg (by simp;intro h;omega)]
    exact⟨⟨k+1,by omega,by go_num,by rw[hc];exact hown,o.out⟩,by simp[intOf];omega⟩
  ·obtain rfl:k=6:=by omega
   have m:Hid (Bl w wr):=E.out.trans (o.out.mono (Nat.le_of_lt N));have G:=z5C s.V 6;have p:Hid (z7C s.V=z2U ltV ((z2U ltP (z4Z s.V 6)).take 4)):=rfl
   rcases hown.row with⟨rfl,hnil⟩ | ⟨g,cap,rfl,hg,hrow,hcap,hmax⟩
   ·have b:Hid (z7C s.V=[]):=by rw[p.out,hnil];rfl
    clear hnil hown p t z
    go_wp2_with (go_at_call 112;refine (q6I _ _).mono ?_;rintro e w1⟨rfl,rfl⟩)
    go_ret;exact⟨_,rfl,.inl ⟨rfl,b.out⟩,m.out⟩
   ·have y:=j7s g cap (z4Z s.V 6) wr hrow (by omega)
    rw[<- z2H ltP (z4Z s.V 6)]at G hcap y ⊢;have H:=y;clear hrow hown t z H;generalize z2U ltP (z4Z s.V 6)=L at *;unfold maxLen at hmax;have Y:(0:Int)<=(L.length:Int):=by omega
    have Z:(L.length:Int)<=(cap:Int):=by omega
    by_cases h4:L.length<=4
    ·have K:(L.length:Int)<=4:=by omega
     have b:Hid (z7C s.V=z2U ltV L):=by rw[p.out,List.take_of_length_le h4];exact rfl
     go_wp2_with (first
      | (go_at_call 112;have _m:=M;refine (q7x g cap L _ (by exact a.out.1) (by omega)).mono ?_;rintro e w2⟨rfl,c⟩;have d:=J6 c;clear c)
      | (go_at_call 112;refine y.mono ?_;rintro e w1⟨rfl,f⟩;have a:=J6 f;clear f;have M:True:=trivial))
     go_ret;have r:=a.out.2.size;refine⟨_,rfl,.inr ⟨g,cap,?_,by omega,by rw[b.out];exact d.out.1,by rw[b.out,z2H];exact hcap,by unfold maxLen;exact hmax⟩,?_⟩
     ·rw[b.out,z2H];rfl
     ·exact (m.out.trans (a.out.2.below (B:=w.heap.size) (by omega) (by omega))).trans (d.out.2.below (by omega) (by omega))
    ·have K:4<(L.length:Int):=by omega
     have n:(L.take 4).length=4:=by rw[List.length_take];omega
     have R:=fun w h=>q7x g cap (L.take 4) w h (by omega)
     rw[n]at R;have a0:(4:Int)<=(cap:Int):=by omega
     go_wp2_with (first
      | (go_at_call 112;have _m:=M;refine (R _ (by exact a.out.1.take 4)).mono ?_;rintro e w2⟨rfl,c⟩;have d:=J6 c;clear c)
      | (go_at_call 112;refine y.mono ?_;rintro e w1⟨rfl,f⟩;have a:=J6 f;clear f;have M:True:=trivial))
     go_ret;have r:=a.out.2.size;refine⟨_,rfl,.inr ⟨g,cap,?_,by omega,by rw[p.out];exact d.out.1,by rw[p.out,z2H,n];omega,by unfold maxLen;exact hmax⟩,?_⟩
     ·rw[p.out,z2H,n];rfl
     ·exact (m.out.trans (a.out.2.below (B:=w.heap.size) (by omega) (by omega))).trans (d.out.2.below (by omega) (by omega))
theorem j6h(w:World):Calls prog 52 #[] w fun e w'=>e=.returned (J4 #[J I 100000,J I 100000,J I 100000,J I 100000,J I 0,J I 0,J I 0])/\Bl w w':=by
 go_enter func52,ntmps52
 go_wp2;refine wp_loop_rounds 5 ?_
 iterate 5 (try (rw[rounds_succ];go_wp2))
 exact bodyPost_ret (v:=J4 #[J I 100000,J I 100000,J I 100000,J I 100000,J I 0,J I 0,J I 0]) (by simp[results,results52,go_sem]) rfl ⟨rfl,(znw w _).alloc (by simp) _⟩
end
namespace Df
open Go.RowKit
theorem q4Y{w:World}{B b:Nat}{v:Value}{l:List Pw}(h:z6t w B v l)(hb:b<=B):z6t w b v l:=by
 refine⟨h.1,?_⟩
 rcases h.2 with c | ⟨g,cap,a,d,h2,h3⟩
 ·exact .inl c
 ·exact .inr ⟨g,cap,a,d,Nat.le_trans hb h2,h3⟩
theorem ix0(c0 c1 c2 c3 a b:Value)(w:World):(Instr.index 39 (J4 #[c0,c1,c2,c3,a,b]) (J I 0)).run prog w=.ok c0 w:=by kernel_rfl
theorem ix1(c0 c1 c2 c3 a b:Value)(w:World):(Instr.index 39 (J4 #[c0,c1,c2,c3,a,b]) (J I 1)).run prog w=.ok c1 w:=by kernel_rfl
theorem ix2(c0 c1 c2 c3 a b:Value)(w:World):(Instr.index 39 (J4 #[c0,c1,c2,c3,a,b]) (J I 2)).run prog w=.ok c2 w:=by kernel_rfl
theorem ix3(c0 c1 c2 c3 a b:Value)(w:World):(Instr.index 39 (J4 #[c0,c1,c2,c3,a,b]) (J I 3)).run prog w=.ok c3 w:=by kernel_rfl
theorem ix4(c0 c1 c2 c3 a b:Value)(w:World):(Instr.index 39 (J4 #[c0,c1,c2,c3,a,b]) (J I 4)).run prog w=.ok a w:=by kernel_rfl
theorem ix5(c0 c1 c2 c3 b a:Value)(w:World):(Instr.index 39 (J4 #[c0,c1,c2,c3,b,a]) (J I 5)).run prog w=.ok a w:=by kernel_rfl
theorem j8T(P:Nat->Int){k:Nat}(a:k<6)(w:World):(Instr.index 39 (J4 #[J I (P 0),J I (P 1),J I (P 2),J I (P 3),J I (P 4),J I (P 5)]) (J I (k:Int))).run prog w=.ok (J I (P k)) w:=by
 rcases (show k=0∨k=1∨k=2∨k=3∨k=4∨k=5 by omega) with rfl | rfl | rfl | rfl | rfl | rfl
 ·exact ix0 _ _ _ _ _ _ w
 ·exact ix1 _ _ _ _ _ _ w
 ·exact ix2 _ _ _ _ _ _ w
 ·exact ix3 _ _ _ _ _ _ w
 ·exact ix4 _ _ _ _ _ _ w
 ·exact ix5 _ _ _ _ _ _ w
theorem j2z(a b:List Pw)(ao bo:Option Addr)(F G H n bb o:Nat)(w:World)(x:PIn w a ao H n)(hb:PIn w b bo bb o) :
  Calls prog 116 #[J1 ao a.length F,J1 bo b.length G] w fun e w'=>∃ v,e=.returned v/\z6t w' w.heap.size v (z3v a b)/\Below w.heap.size w w':=by
 obtain⟨i0,Q,y,z,A⟩:=info_parts q9H;have S:=J6 x;have d:=J6 hb;have p:=J6 (q1o a ao F H n w x);have q:=J6 (fun w h=>q1o b bo G bb o w h);unfold z3v;generalize z1C a=P at *;generalize z1C b=R at *;clear x hb
 go_enter func116,ntmps116
 go_upto_region 3 with (first
  | (go_at_call 156;have _m:=T;refine (q.out _ (d.out.over f.out)).mono ?_;rintro e g⟨rfl,r⟩;have c:=J6 (zbt f.out r);clear r)
  | (go_at_call 156;refine p.out.mono ?_;rintro e w1⟨rfl,s⟩;have f:=J6 s;have T:True:=trivial;clear s))
 have B:=(QAt.new g P).alloc (J5 #[J I (R 0),J I (R 1),J I (R 2),J I (R 3),J I (R 4),J I (R 5)] 39);have C:=QAt.new (g.alloc (J5 #[J I (P 0),J I (P 1),J I (P 2),J I (P 3),J I (P 4),J I (P 5)] 39)) R;rw[show (g.alloc (J5 #[J I (P 0),J I (P 1),J I (P 2),J I (P 3),J I (P 4),J I (P 5)] 39)).heap.size=g.heap.size+1 by simp]at C
 have K:=(c.out.alloc c.out.size (J5 #[J I (P 0),J I (P 1),J I (P 2),J I (P 3),J I (P 4),J I (P 5)] 39)).alloc (Nat.le_trans c.out.size (by simp)) (J5 #[J I (R 0),J I (R 1),J I (R 2),J I (R 3),J I (R 4),J I (R 5)] 39)
 have U:w.heap.size<=g.heap.size:=c.out.size;clear p q S d f c;generalize g.heap.size=b6 at *;generalize (g.alloc (J5 #[J I (P 0),J I (P 1),J I (P 2),J I (P 3),J I (P 4),J I (P 5)] 39)).alloc (J5 #[J I (R 0),J I (R 1),J I (R 2),J I (R 3),J I (R 4),J I (R 5)] 39)=w3 at *;obtain⟨⟨c0,c1,c2,c3,V,W⟩,-⟩:=C.facts;have X:b6<w3.heap.size:=B.lt;have D:=J6 (And.intro B K);clear B C K
 go_upto_region 4 with fail
 clear c0 c1 c2 c3 V W
 go_loopw [5,15] (fun v i wl=>∃ k:Nat,k<=6/\i=J I (k:Int)/\z6t wl w3.heap.size v (those (fun v=>decide (R v≠P v)) R k)/\Hid (Below w3.heap.size w3 wl)) (fun _ i _=>(6 - intOf i).toNat)
 case atStart=>exact⟨0,by omega,rfl,z6t.nil _ _,Below.refl _ _⟩
 case round =>
  obtain⟨k,hk,rfl,hown,d⟩:=hrel;have E:w3.heap.size<=wr.heap.size:=d.out.size
  by_cases t:k<6
  ·have Y:(k:Int)<6:=by omega
   have Z:=fun w=>j8T R t w;have cP:=(D.out.1.later d.out X).one t;have L:=J6 (z2h (fun v=>decide (R v≠P v)) R k);have M:=z4b (fun v=>decide (R v≠P v)) R k;generalize R k=rk at *;generalize P k=pk at *
   by_cases j:rk=pk
   ·subst j;go_wp2;exact⟨⟨k+1,by omega,by go_num,by rw[L.out,if_neg (by simp)];exact hown,d.out⟩,by simp[intOf];omega⟩
   ·have N:(rk != pk)=true:=by simpa using j
    go_wp2_with (at_builtin;refine wpList_append_own_at _ rfl _ _ 44 rfl w3.heap.size 65 i0 (J4 #[J I 0,J I 0]) 2 16 underlying44 Q y z A rfl (by decide) _ _ _ rfl (World.ownsRow.alloc hown _) ⟨wr.heap.size,0,none⟩ 1 1 [J I (k:Int),J I rk] rfl rfl (q2L _ _ _ _) (by intro u hu;simp at hu;rcases hu with rfl | rfl <;> rfl) (by unfold maxLen;omega) (by omega) (by simp;omega) ?_;intro v' w1 l m _ a0)
    have hb:Below w3.heap.size w3 w1:=z6t.grow hown d.out m (Nat.le_refl _) E;refine⟨⟨k+1,by omega,by go_num,?_,hb⟩,by simp[intOf];omega⟩
    rw[L.out,if_pos (by simpa using j)]
    exact z6t.append l rfl
  ·obtain rfl:k=6:=by omega
   go_wp2;go_ret;exact⟨_,rfl,q4Y hown (by have:=D.out.2.size;omega),zbt D.out.2 d.out⟩
theorem q9b(a d:List Pw)(ao bo:Option Addr)(ca cb ab D bb E:Nat)(w:World)(F:PIn w a ao ab D)(hd:PIn w d bo bb E) :
  Calls prog 161 #[J1 ao a.length ca,J1 bo d.length cb] w fun e w'=>∃ v,e=.returned v/\z6t w' w.heap.size v (z2F a d)/\Below w.heap.size w w':=by
 obtain⟨i0,hi,G,H,K⟩:=info_parts q9H;have a0:=F.len;have hld:=hd.len;have B:=J6 F;have HD:=J6 hd;have L:=QAt.new w z2A;dsimp only [z2A]at L;have B0:Below w.heap.size w (w.alloc (J5 #[.int .i64 0,.int .i64 0,.int .i64 0,.int .i64 0,.int .i64 0,.int .i64 0] 39)):=znw w _;have l:w.heap.size<=w.heap.size:=Nat.le_refl _;clear F hd
 go_enter func161,ntmps161
 go_upto_region 2 with fail
 have V:Hid (QAt (w.alloc (J5 #[.int .i64 0,.int .i64 0,.int .i64 0,.int .i64 0,.int .i64 0,.int .i64 0] 39)) w.heap.size z2A/\_):=⟨L,B0⟩;clear L B0;obtain⟨g,c⟩:∃ g,w.heap.size=g:=⟨_,rfl⟩;have l:w.heap.size<=g:=Nat.le_of_eq c;rw[show (Value.pointer (some ⟨w.heap.size,0,none⟩))=J2 (some ⟨g,0,none⟩) by rw[c]]
 generalize w.alloc (J5 #[.int .i64 0,.int .i64 0,.int .i64 0,.int .i64 0,.int .i64 0,.int .i64 0] 39)=w0 at *;have m:Hid (QAt w0 g z2A/\Below w.heap.size w w0):=by have:=V.out;rw[c]at this;rw[c];exact this
 clear V c
 go_upto_region 3 with fail
 go_loopw [15] (fun i wl=>∃ k:Nat,k<=a.length/\i=.int .i64 (k:Int)/\Hid (QAt wl g (z1N (z2A) (a.take k))/\Below w.heap.size w wl)) (fun i _=>a.length - (intOf i).toNat)
 case atStart=>exact⟨0,Nat.zero_le _,rfl,m.out.1,m.out.2⟩
 case round =>
  obtain⟨k,W,rfl,HR⟩:=hrel
  by_cases f:k<a.length
  ·have M:(k:Int)<(a.length:Int):=by omega
   obtain⟨c0,c1⟩:=(B.out.later HR.out.2 B.out.ltB).cells k f;have N:=J6 (z9f (z2A) a k f);have o:=B.out.adr (by omega)
   subst o;generalize a.getD k (0,0)=x at *;obtain⟨v,n⟩:=x;dsimp only at c0 c1;have s:=HR.out.1.alloc (J5 #[.int .i64 v,.int .i64 n] 65);have b:=J6 (And.intro s (HR.out.2.alloc HR.out.2.size (J5 #[.int .i64 v,.int .i64 n] 65)));clear s
   go_wp2_with (go_at_call 186;refine (z8r g v n _ _ b.out.1).mono ?_;rintro e w1⟨rfl,t,y⟩;have Q:=J6 t;have R:=J6 y;clear t y)
   refine⟨⟨k+1,by omega,by go_num,by rw[N.out];exact Q.out,b.out.2.trans (z5E R.out l b.out.2.size)⟩,by simp[intOf];omega⟩
  ·obtain rfl:k=a.length:=by omega
   have z:a.take a.length=a:=List.take_length;rw[z]at HR;have p:=J6 HR.out;clear HR z m B
   go_upto_region 8 with fail
   go_loopw [24] (fun i wl=>∃ k:Nat,k<=d.length/\i=.int .i64 (k:Int)/\Hid (QAt wl g (z1N (z1N z2A a) (d.take k))/\Below w.heap.size w wl)) (fun i _=>d.length - (intOf i).toNat)
   case atStart=>exact⟨0,Nat.zero_le _,rfl,p.out.1,p.out.2⟩
   case round =>
    obtain⟨k,W,rfl,HR⟩:=hrel
    by_cases f:k<d.length
    ·have M:(k:Int)<(d.length:Int):=by omega
     obtain⟨c0,c1⟩:=(HD.out.later HR.out.2 HD.out.ltB).cells k f;have N:=J6 (z9f (z1N z2A a) d k f);have o:=HD.out.adr (by omega)
     subst o;generalize d.getD k (0,0)=x at *;obtain⟨v,n⟩:=x;dsimp only at c0 c1;have s:=HR.out.1.alloc (J5 #[.int .i64 v,.int .i64 n] 65);have b:=J6 (And.intro s (HR.out.2.alloc HR.out.2.size (J5 #[.int .i64 v,.int .i64 n] 65)));clear s
     go_wp2_with (go_at_call 186;refine (z8r g v n _ _ b.out.1).mono ?_;rintro e w1⟨rfl,t,y⟩;have Q:=J6 t;have R:=J6 y;clear t y)
     refine⟨⟨k+1,by omega,by go_num,by rw[N.out];exact Q.out,b.out.2.trans (z5E R.out l b.out.2.size)⟩,by simp[intOf];omega⟩
    ·obtain rfl:k=d.length:=by omega
     have z:d.take d.length=d:=List.take_length;rw[z]at HR;have h:=J6 HR.out;clear HR z p HD;have S:z2F a d=those (fun v=>decide (0<z1N (z1N z2A a) d v)) (z1N (z1N z2A a) d) 6:=rfl;obtain⟨P,X⟩:∃ P,z1N (z1N z2A a) d=P:=⟨_,rfl⟩;rw[X]at S h;have HE:=J6 S;clear S X;obtain⟨⟨c0,c1,c2,c3,c4,c5⟩,-⟩:=h.out.1.facts;obtain⟨j,rfl⟩:∃ j,j=wr:=⟨_,rfl⟩
     go_upto_region 14 with fail
     go_loopw [10,32] (fun v i wl=>∃ k:Nat,k<=6/\i=.int .i64 (k:Int)/\z6t wl j.heap.size v (those (fun v=>decide (0<P v)) P k)/\Hid (Below j.heap.size j wl)) (fun _ i _=>(6 - intOf i).toNat)
     case atStart=>exact⟨0,by omega,rfl,z6t.nil _ _,Below.refl _ _⟩
     case round =>
      obtain⟨k,W,rfl,hown,C⟩:=hrel;have T:j.heap.size<=wr.heap.size:=C.out.size
      by_cases U:k<6
      ·have a1:(k:Int)<6:=by omega
       have a2:=fun w=>j8T P U w;have Y:=J6 (z2h (fun v=>decide (0<P v)) P k);have Z:=z4b (fun v=>decide (0<P v)) P k;generalize P k=pk at *
       by_cases A:0<pk
       ·go_wp2_with (at_builtin;refine wpList_append_own_at _ rfl _ _ 44 rfl j.heap.size 65 i0 (J4 #[.int .i64 0,.int .i64 0]) 2 16 underlying44 hi G H K rfl (by decide) _ _ _ rfl (World.ownsRow.alloc hown _) ⟨wr.heap.size,0,none⟩ 1 1 [.int .i64 (k:Int),.int .i64 pk] rfl rfl (q2L _ _ _ _) (by intro u hu;simp at hu;rcases hu with rfl | rfl <;> rfl) (by unfold maxLen;omega) (by omega) (by simp;omega) ?_;intro v' w1 q r _ a3)
        have hb:Below j.heap.size j w1:=z6t.grow hown C.out r (Nat.le_refl _) T;refine⟨⟨k+1,by omega,by go_num,?_,hb⟩,by simp[intOf];omega⟩
        rw[Y.out,if_pos (by simpa using A)]
        exact z6t.append q rfl
       ·go_wp2;exact⟨⟨k+1,by omega,by go_num,by rw[Y.out,if_neg (by simpa using A)];exact hown,C.out⟩,by simp[intOf];omega⟩
      ·obtain rfl:k=6:=by omega
       go_wp2;go_ret;exact⟨_,rfl,by rw[HE.out];exact q4Y hown h.out.2.size,zbt h.out.2 C.out⟩
theorem j6p(l:List Pw)(ao:Option Addr)(c b off:Nat)(w:World)(g:PIn w l ao b off) :
  Calls prog 76 #[J1 ao l.length c] w fun e w'=>e=.returned (J I (q6d l))/\Below w.heap.size w w':=by
 have o:=g.len;have p:=J6 g;clear g
 go_enter func76,ntmps76
 go_upto_region 3 with fail
 go_loopw [3,8] (fun s i wl=>∃ k:Nat,k<=l.length/\i=J I (k:Int)/\s=J I (q6d (l.take k))/\Hid (Below w.heap.size w wl)) (fun _ i _=>l.length - (intOf i).toNat)
 case atStart=>exact⟨0,Nat.zero_le _,rfl,rfl,Below.refl _ _⟩
 case round =>
  obtain⟨k,u,rfl,rfl,HR⟩:=hrel
  by_cases d:k<l.length
  ·have q:(k:Int)<(l.length:Int):=by omega
   obtain⟨c0,c1⟩:=(p.out.over HR.out).cells k d;have f:=J6 (j1X l k d);have h:=p.out.adr (by omega)
   subst h;generalize l.getD k (0,0)=x at *;obtain⟨v,n⟩:=x;dsimp only at c0 c1 f;generalize q6d (l.take k)=s0 at *;obtain⟨j,a⟩:∃ j,q6d (l.take (k+1))=j:=⟨_,rfl⟩;rw[a]at f;have m:=J6 a;have r:wrap64 (s0+n)=j:=by rw[f.out];unfold wrap64;rfl
   clear f a;go_wp2;exact⟨⟨k+1,by omega,by go_num,by rw[m.out,r],HR.out.alloc HR.out.size _⟩,by simp[intOf];omega⟩
  ·obtain rfl:k=l.length:=by omega
   have t:Hid (l.take l.length=l):=List.take_length;go_wp2;go_ret;exact⟨by rw[t.out];rfl,HR.out⟩
end Df
end Go.Proofs.YtddlhnoedldidaaGreat
