/- Parts of the proof. -/
import Derived.Test.YtddlhnoedldidaaGreatGL
import Derived.Test.YtddlhnoedldidaaGreatGK1
import Derived.Test.YtddlhnoedldidaaGreatGK12
set_option maxRecDepth 100000
set_option maxHeartbeats 16000000
namespace Go.Proofs.YtddlhnoedldidaaGreat
open Go.Proofs.Tryz
open Value renaming int->J,slice->J1,pointer->J2,bool->J3,agg->J4
open IntKind renaming i64->I
open Obj renaming cells->J5
namespace Kc
open Go.RowKit Pv
structure Cs where
 on:Bool
 gone:Bool
 h:Int
 t:Int
 id:Int
 set:List (Int×Int)
 pd:List Pkt
 rp:List (Int×Int)
 fl:Nat->Bool
 out:Ln.Line
 h0:Int
 h1:Int
 h2:Int
 h3:Int
structure CsV where
 set:Value
 pd:Value
 rp:Value
 said:Value
 due:Value
def csC(c:Cs)(v:CsV):Array Value:=#[J3 c.on,J3 c.gone,J I c.h,J I c.t,J I c.id,v.set,v.pd,v.rp,J3 (c.fl 0),J3 (c.fl 1),J3 (c.fl 2),J3 (c.fl 3),J3 (c.fl 4),J3 (c.fl 5),v.said,v.due,J I c.out.g,J3 c.out.cl,J I c.h0,J I c.h1,J I c.h2,J I c.h3]
theorem z0r(c:Cs)(v:CsV):(csC c v).size=22:=rfl
def pkL(x:Pkt)(y:Value×Value):List Value:=[J I x.k,J I x.i,J I x.v,J I x.n,y.1,y.2]
def pdL:List Pkt->List (Value×Value)->List Value
 | x :: q,y :: z=>pkL x y ++ pdL q z
 | _,_=>[]
def z7Z(P:Nat->Prop)(w:World)(v:Value)(q:List Pkt):Prop:=
 ∃ z:List (Value×Value),z.length=q.length/\Rep P w v 6 40 (pdL q z)/\∀ (i:Nat) (x:Pkt) (y:Value×Value),q[i]?=some x->z[i]?=some y->Rep P w y.1 2 16 (pwC x.S)/\Rep P w y.2 1 8 (inC x.D)
structure CIn(P:Nat->Prop)(w:World)(c:Cs)(v:CsV):Prop where
 set:Rep P w v.set 2 16 (pwC c.set)
 pd:z7Z P w v.pd c.pd
 rp:Rep P w v.rp 2 8 (pwC c.rp)
 said:z0U P w v.said 1 16 (txC c.out.S)
 due:z0U P w v.due 1 8 (inC c.out.D)
theorem z2D:∀ (q:List Pkt) (z:List (Value×Value)),z.length=q.length->(pdL q z).length=q.length * 6
 | [],[],_=>rfl
 | x :: q,y :: z,h=>by
  have:=z2D q z (by simpa using h)
  show (pkL x y ++ pdL q z).length=_
  rw[List.length_append,this,List.length_cons]
  show 6+_=_
  omega
 | [],_ :: _,h=>by simp at h
 | _ :: _,[],h=>by simp at h
theorem q7K:∀ (q:List Pkt) (z:List (Value×Value)) (x:Pkt) (y:Value×Value),z.length=q.length->pdL (q ++ [x]) (z ++ [y])=pdL q z ++ pkL x y
 | [],[],x,y,_=>by simp[pdL]
 | a :: q,b :: z,x,y,h=>by
  show pkL a b ++ pdL (q ++ [x]) (z ++ [y])=(pkL a b ++ pdL q z) ++ _
  rw[q7K q z x y (by simpa using h),List.append_assoc]
 | [],_ :: _,_,_,h=>by simp at h
 | _ :: _,[],_,_,h=>by simp at h
theorem z8v:∀ (q:List Pkt) (z:List (Value×Value)) (i:Nat) (x:Pkt) (y:Value×Value) (j:Nat),q[i]?=some x->z[i]?=some y->j<6->(pdL q z)[i * 6+j]?=(pkL x y)[j]?
 | a :: q,b :: z,0,x,y,j,h1,h2,hj=>by
  simp at h1 h2
  subst h1 h2
  show (pkL a b ++ pdL q z)[0 * 6+j]?=_
  rw[Nat.zero_mul,Nat.zero_add,List.getElem?_append_left (by exact hj)]
 | a :: q,b :: z,i+1,x,y,j,h1,h2,hj=>by
  show (pkL a b ++ pdL q z)[(i+1) * 6+j]?=_
  rw[List.getElem?_append_right (by show 6<=_;omega)]
  rw[show (i+1) * 6+j - (pkL a b).length=i * 6+j by show (i+1) * 6+j - 6=_;omega]
  exact z8v q z i x y j (by simpa using h1) (by simpa using h2) hj
 | [],_,i,_,_,_,h1,_,_=>by simp at h1
 | _ :: _,[],i,_,_,_,_,h2,_=>by simp at h2
section
variable {P P':Nat->Prop} {w w':World}
theorem z7Z.nil(P:Nat->Prop)(w:World):z7Z P w (J1 none 0 0) []:=⟨[],rfl,Rep.nil _ _ _ _,fun i x y h=>by simp at h⟩
theorem z7Z.mono{v:Value}{q:List Pkt}(h:z7Z P w v q)(hp:∀ b,b<w.heap.size->P b->P' b):z7Z P' w v q:=by
 obtain⟨z,h1,h2,h3⟩:=h;exact⟨z,h1,h2.mono hp,fun i x y a c=>⟨(h3 i x y a c).1.mono hp,(h3 i x y a c).2.mono hp⟩⟩
theorem z7Z.keep{v:Value}{q:List Pkt}(h:z7Z P w v q)(a:∀ b,P b->b<w.heap.size->w'.heap[b]?=w.heap[b]?):z7Z P w' v q:=by
 obtain⟨z,h1,h2,h3⟩:=h;exact⟨z,h1,h2.keep a,fun i x y c d=>⟨(h3 i x y c d).1.keep a,(h3 i x y c d).2.keep a⟩⟩
theorem z7Z.over{v:Value}{q:List Pkt}(h:z7Z P w v q)(hb:Bl w w'):z7Z P w' v q:=h.keep fun b _ a=>hb.block b a
theorem CIn.mono{c:Cs}{v:CsV}(h:CIn P w c v)(hp:∀ b,b<w.heap.size->P b->P' b):CIn P' w c v:=⟨h.set.mono hp,h.pd.mono hp,h.rp.mono hp,h.said.mono hp,h.due.mono hp⟩
theorem CIn.keep{c:Cs}{v:CsV}(h:CIn P w c v)(a:∀ b,P b->b<w.heap.size->w'.heap[b]?=w.heap[b]?):CIn P w' c v:=⟨h.set.keep a,h.pd.keep a,h.rp.keep a,h.said.keep a,h.due.keep a⟩
theorem CIn.over{c:Cs}{v:CsV}(h:CIn P w c v)(hb:Bl w w'):CIn P w' c v:=h.keep fun b _ a=>hb.block b a
theorem CIn.sets{c:Cs}{v:CsV}(h:CIn P w c v){g:Nat}(d:¬ P g)(o:Nat)(a:List Value):CIn P (w.setCells g o a) c v:=h.keep fun b hb _=>z1l (show b≠g from fun e=>d (by rw[<- e];exact hb)) a o w
theorem CIn.set1{c:Cs}{v:CsV}(h:CIn P w c v){g:Nat}(a:¬ P g)(o:Nat)(x:Value):CIn P (w.setCell ⟨g,o,none⟩ x) c v:=h.keep fun b hb _=>Below.heap_setCell w ⟨g,o,none⟩ x b (show b≠g from fun e=>a (by rw[<- e];exact hb))
theorem CIn.z2X{c:Cs}{v:CsV}(h:CIn P w c v)(hb:Bl w w')(k:Nat):CIn (New P w k) w' c v:=(h.mono (P':=fun b=>New P w k b/\b<w.heap.size) fun _ a hp=>⟨.inl ⟨hp,a⟩,a⟩).over hb |>.mono fun _ _ h=>h.1
theorem _root_.Go.Proofs.YtddlhnoedldidaaGreat.Pv.Alt.cin{g:Nat}{w w':World}(h:Alt g w w'){P:Nat->Prop}(d:¬ P g){c:Cs}{v:CsV}(hp:CIn P w c v):CIn P w' c v:=hp.keep fun b hb a=>h.block b a (fun e=>d (e ▸ hb))
theorem z3w{v:Value}{sz bts:Nat}{cs:List Value}(h:Rep P w v sz bts cs):v.oneCell'=true:=by
 obtain⟨A,n,C,rfl,_⟩:=h;rfl
theorem z7Z.slice{v:Value}{q:List Pkt}(h:z7Z P w v q):v.oneCell'=true:=by
 obtain⟨z,_,h,_⟩:=h;exact z3w h
theorem z2p{c:Cs}{v:CsV}(h:CIn P w c v):(csC c v).all (·.oneCell')=true:=by
 have h1:=z3w h.set;have h2:=h.pd.slice;have h3:=z3w h.rp;have b:=h.said.one;have d:=h.due.one;simp only[csC,Array.all_eq_true_iff_forall_mem];intro x a;simp only[List.mem_toArray,List.mem_cons,List.not_mem_nil,or_false]at a
 rcases a with rfl | rfl | rfl | rfl | rfl | rfl | rfl | rfl | rfl | rfl | rfl | rfl | rfl | rfl | rfl | rfl | rfl | rfl | rfl | rfl | rfl | rfl <;> first | rfl | assumption
end
theorem z3K:(prog.info? 75).map (·.size)=some 22:=by kernel_rfl
def Z22:Array Value:=#[J3 false,J3 false,J I 0,J I 0,J I 0,J1 none 0 0,J1 none 0 0,J1 none 0 0,J3 false,J3 false,J3 false,J3 false,J3 false,J3 false,J1 none 0 0,J1 none 0 0,J I 0,J3 false,J I 0,J I 0,J I 0,J I 0]
theorem z0C:Z22.size=22:=rfl
def z7n(v:Value):Sem Value:=Instr.loadAt 75 v
theorem z2f(v:Value):Instr.loadAt 75 v=z7n v:=rfl
def q3L(a v:Value):Sem Unit:=Instr.storeAt 75 a v
theorem z1J(a v:Value):Instr.storeAt 75 a v=q3L a v:=rfl
theorem z3n{w:World}{g:Nat}{cs:Array Value}(h:CAt 75 w g cs)(hs:cs.size=22):(z7n (J2 (some ⟨g,0,none⟩))).run prog w=.ok (J4 cs) w:=by
 have:=run_loadAt_mid (P:=prog) w g 0 75 cs.toList _ h.range underlying75 rfl (by rw[z3K];simp[hs])
 change (Instr.loadAt 75 _).run prog w=_
 simpa using this
theorem z2v{w:World}{g:Nat}{a cs:Array Value}(h:CAt 75 w g a)(b:a.size=22)(hs:cs.size=22)(h1:cs.all (·.oneCell')=true):(q3L (J2 (some ⟨g,0,none⟩)) (J4 cs)).run prog w=.ok () (w.setCells g 0 cs.toList):=
 run_storeAt_mid (P:=prog) w g 0 75 cs (h.there 0 _ (by rw[b,hs];omega)) (by rw[z3K,hs]) h1
def j8E(P:Nat->Prop)(w:World)(r:Cs×Int)(e:Ending)(w':World):Prop:=∃ v',e=.returned (.tuple #[J4 (csC r.1 v'),J I r.2])/\CIn (New P w 2) w' r.1 v'/\Bl w w'
theorem q3p{d:Func}{p q:Tmp}(h:d.results=#[.cell p 75,.tmp q])(a:Array Value)(w:World)(g:Nat)(cs:Array Value)(v:Value)
  (hp:a.getD p undef=J2 (some ⟨g,0,none⟩)) (e:a.getD q undef=v) (f:CAt 75 w g cs) (b:cs.size=22) :
  (results d a).run prog w=.ok (.tuple #[J4 cs,v]) w:=by
 have hp':a[p]?.getD undef=J2 (some ⟨g,0,none⟩):=by simpa using hp
 have c:a[q]?.getD undef=v:=by simpa using e
 simp[results,h,hp',c,asAddr,run_loadVar_row w g 75 75 cs (0,0) _ f underlying75 rfl (by rw[z3K,b])]
theorem z6w{f:Func}{t q:Tmp}(a:f.results=#[.cell t 75,.tmp q]){P:Nat->Prop}{w wq:World}{d:Array Value}(R:CAt 75 wq (w.heap.size+1) d)(e:d.size=22)(H:Bl w wq)(b:Cs)(v':CsV)(c:Int)(r:Cs×Int)(g:r=(b,c))(hp:CIn (New P w 2) wq b v')(act:Act)
  (h:act.tmps.getD t undef=J2 (some ⟨w.heap.size+1,0,none⟩)) (i:act.tmps.getD q undef=J I c) (hd:act.defers=[]) :
  bodyPost prog f (j8E P w r) Exit.ret act (wq.setCells (w.heap.size+1) 0 (csC b v').toList):=by
 subst g;have j:=R.z0L (ds:=csC b v') (by rw[e];rfl)
 exact bodyPost_ret (v:=.tuple #[J4 (csC b v'),J I c]) (q3p a _ _ _ _ _ h i j rfl) hd ⟨v',rfl,hp.sets (z4d (by omega)) _ _,z0b (Nat.le_succ _) _ _ _ H⟩
def j7J(P:Nat->Prop)(w:World)(r:Cs)(k:Nat)(e:Ending)(w':World):Prop:=∃ v',e=.returned (J4 (csC r v'))/\CIn (New P w k) w' r v'/\Bl w w'
theorem z5G{c:Func}{p:Tmp}(h:c.results=#[.cell p 75])(a:Array Value)(w:World)(g:Nat)(cs:Array Value)
  (hp:a.getD p undef=J2 (some ⟨g,0,none⟩)) (d:CAt 75 w g cs) (b:cs.size=22) :
  (results c a).run prog w=.ok (J4 cs) w:=by
 have hp':a[p]?.getD undef=J2 (some ⟨g,0,none⟩):=by simpa using hp
 simp[results,h,hp',asAddr,run_loadVar_row w g 75 75 cs (0,0) _ d underlying75 rfl (by rw[z3K,b])]
theorem q3A{f:Func}{t:Tmp}(a:f.results=#[.cell t 75]){P:Nat->Prop}{w wq:World}{d:Array Value}{k g:Nat}(R:CAt 75 wq g d)(e:d.size=22)(H:Bl w wq)(c:w.heap.size<=g)(b:Cs)(v':CsV)(h:¬ New P w k g)(hp:CIn (New P w k) wq b v')(act:Act)
  (i:act.tmps.getD t undef=J2 (some ⟨g,0,none⟩)) (hd:act.defers=[]) :
  bodyPost prog f (j7J P w b k) Exit.ret act (wq.setCells g 0 (csC b v').toList):=by
 have j:=R.z0L (ds:=csC b v') (by rw[e];rfl)
 exact bodyPost_ret (v:=J4 (csC b v')) (z5G a _ _ _ _ i j rfl) hd ⟨v',rfl,hp.sets h _ _,z0b c _ _ _ H⟩
theorem j8X(c:Cs)(v:CsV)(x:Bool):(csC c v).setIfInBounds 0 (J3 x)=csC { c with on:=x } v:=rfl
theorem j3o(c:Cs)(v:CsV)(x:Bool):(csC c v).setIfInBounds 1 (J3 x)=csC { c with gone:=x } v:=rfl
theorem j7X(c:Cs)(v:CsV)(x:Int):(csC c v).setIfInBounds 2 (J I x)=csC { c with h:=x } v:=rfl
theorem j6Z(c:Cs)(v:CsV)(x:Int):(csC c v).setIfInBounds 3 (J I x)=csC { c with t:=x } v:=rfl
theorem j8N(c:Cs)(v:CsV)(x:Int):(csC c v).setIfInBounds 4 (J I x)=csC { c with id:=x } v:=rfl
theorem set_set(c:Cs)(v:CsV)(l:List (Int×Int))(x:Value):(csC c v).setIfInBounds 5 x=csC { c with set:=l } { v with set:=x }:=rfl
theorem j4t(c:Cs)(v:CsV)(l:List Pkt)(x:Value):(csC c v).setIfInBounds 6 x=csC { c with pd:=l } { v with pd:=x }:=rfl
theorem q7C(c:Cs)(v:CsV)(l:List (Int×Int))(x:Value):(csC c v).setIfInBounds 7 x=csC { c with rp:=l } { v with rp:=x }:=rfl
def j6y(f:Nat->Bool)(k:Nat)(x:Bool):Nat->Bool:=fun i=>if i=k then x else f i
theorem j4Q(c:Cs)(v:CsV){k:Nat}(a:k<6)(x:Bool):(csC c v).setIfInBounds (8+k) (J3 x)=csC { c with fl:=j6y c.fl k x } v:=by
 rcases (show k=0∨k=1∨k=2∨k=3∨k=4∨k=5 by omega) with rfl | rfl | rfl | rfl | rfl | rfl <;> rfl
theorem j0U(c:Cs)(v:CsV){k:Nat}(a:k<6):(csC c v)[8+k]?=some (J3 (c.fl k)):=by
 rcases (show k=0∨k=1∨k=2∨k=3∨k=4∨k=5 by omega) with rfl | rfl | rfl | rfl | rfl | rfl <;> rfl
theorem y0H(c:Cs)(v:CsV)(x:Bool):(csC c v).setIfInBounds 17 (J3 x)=csC { c with out:={ c.out with cl:=x } } v:=rfl
end Kc
namespace Kc
open Go.RowKit Pv
def z5R(x:Pkt):Bool:=decide (x.k=1) && decide (Cd.z0n x.k x.i x.v x.n x.S x.D=0)
def z7J(x:Int×Int):Bool:=decide (1<=x.1) && decide (x.1<=1099511627776) && decide (0<=x.2)
def z8P(c:Cs):Bool:=(!(c.on && c.gone) && decide (0<=c.h) && decide (c.h<1099511627776) && isT c.t && isT c.id) && (z2W (-1) c.set && c.pd.all z5R && c.rp.all z7J && Ln.z1a c.out)
def z5t(c:Cs):Int:=if z8P c=true then (if c.on=true then 0 else 4) else 2
def z2s(set:List (Int×Int))(id now:Int):Cs:=⟨true,false,0,now,id,set,[],[],fun _=>false,⟨[],[],0,false⟩,0,0,0,0⟩
def z3c(c:Cs)(l:List Int):Cs×Int:=
 if z5t c=0 then
  if Cd.z4x l=0 then
   if (z0X l).k=1 then ({ c with pd:=c.pd ++ [z0X l] },0) else (c,3)
  else (c,Cd.z4x l)
 else (c,z5t c)
def z2o(c:Cs)(k i v n:Int)(now:Int):Cs×Int:=
 if Cd.z0n k i v n [] []=0 then ({ c with out:=Ln.z4C c.out (Cd.encS k i v n [] []) (now+40) },Ln.z5O c.out (now+40)) else (c,Cd.z0n k i v n [] [])
def z4A(v:Int):List (Int×Int)->Int
 | []=>0
 | x :: l=>if x.1=v then x.2 else z4A v l
def z3o(c:Cs)(v now:Int):Cs×Int:=
 if isT now=true then
  if z5t c=0 then
   if z4A v c.set=0 then (c,4)
   else if c.fl v.toNat=true then (c,5)
   else if (z2o c 3 c.id v (z4A v c.set) now).2=0 then ({ (z2o c 3 c.id v (z4A v c.set) now).1 with fl:=j6y c.fl v.toNat true },0)
   else (c,(z2o c 3 c.id v (z4A v c.set) now).2)
  else (c,z5t c)
 else (c,2)
def y0f(a:Int):Int:=if a<1 then 1 else a
def z1c(c:Cs)(v id now:Int):Cs×Int:=
 if isT now=true then
  if z5t c=0 then
   if isV v=true then
    if 1<=id/\id<=c.id then z2o c 4 id v (y0f (z4A v c.set)) now else (c,2)
   else (c,4)
  else (c,z5t c)
 else (c,2)
def z1d(c:Cs):Cs:=if c.on=true then { c with on:=false,gone:=true,out:={ c.out with cl:=true } } else c
def z3O(f:Nat->Bool)(l:List Int):Nat->Bool:=l.foldl (fun f v=>j6y f v.toNat false) f
def takeC(c:Cs)(x:Pkt):Cs:={ c with set:=Df.z2F c.set x.S,id:=x.i,fl:=z3O c.fl x.D,rp:=c.rp ++ [(x.i,c.t+15)] }
def z1R(c:Cs):List (Int×Int)->Cs
 | []=>{ c with rp:=[] }
 | x :: l=>if x.2<=c.t then (if (z2o c 2 x.1 0 0 c.t).2=0 then z1R (z2o c 2 x.1 0 0 c.t).1 l else { c with rp:=x :: l }) else { c with rp:=x :: l }
def z1w(c:Cs):Cs:=c.pd.foldl takeC c
def z2K(c:Cs):Cs:=z1R { z1w c with pd:=[] } (z1w c).rp
def z7A(c:Cs)(now:Int):Cs×Int:=
 if z5t c=0 then
  if isT now=true/\c.t<=now then (z2K { c with h:=c.h+1,t:=now },0) else (c,2)
 else (c,z5t c)
theorem z7Y(n:Int)(w:World):Calls prog 120 #[J I n] w fun e w'=>e=.returned (J3 (isT n))/\w=w':=by
 have b:isT n=(decide (0<=n) && decide (n<=1099511627776)):=rfl;generalize isT n=t at *;have a:=J6 b;clear b
 by_cases h:0<=n
 ·by_cases h2:n<=1099511627776
  ·have e:t=true:=by rw[a.out];simp[h,h2]
   subst e
   go_enter func120,ntmps120
   go_wp2;go_ret;exact⟨rfl,rfl⟩
  ·have e:t=false:=by rw[a.out];simp[h2]
   subst e
   go_enter func120,ntmps120
   go_wp2;go_ret;exact⟨rfl,rfl⟩
 ·have e:t=false:=by rw[a.out];simp[h]
  subst e
  go_enter func120,ntmps120
  go_wp2;go_ret;exact⟨rfl,rfl⟩
theorem z9S(v:Int)(w:World):Calls prog 133 #[J I v] w fun e w'=>e=.returned (J3 (isV v))/\w=w':=by
 have b:isV v=decide (0<=v/\v<6):=rfl;generalize isV v=t at *;have a:=J6 b;clear b
 by_cases h:0<=v
 ·by_cases h2:v<6
  ·have e:t=true:=by rw[a.out];simp[h,h2]
   subst e
   go_enter func133,ntmps133
   go_wp2;go_ret;exact⟨rfl,rfl⟩
  ·have e:t=false:=by rw[a.out];simp[h2]
   subst e
   go_enter func133,ntmps133
   go_wp2;go_ret;exact⟨rfl,rfl⟩
 ·have e:t=false:=by rw[a.out];simp[h]
  subst e
  go_enter func133,ntmps133
  go_wp2;go_ret;exact⟨rfl,rfl⟩
theorem j2m(l:List (Int×Int))(v:Value)(P:Nat->Prop)(w:World)(h:Rep P w v 2 16 (pwC l)):Calls prog 187 #[v] w fun e w'=>e=.returned (J3 (z2W (-1) l))/\Bl w w':=by
 obtain⟨A,C,rfl,hs,-,hc,-⟩:=h.open (z0c _) (by decide)
 have E:=J6 hc;have t:l.length<=8796093022202:=by omega
 obtain⟨G,o⟩:∃ G,z2W (-1) l=G:=⟨_,rfl⟩;have u:=J6 o;rw[o];clear hc h hs o
 go_enter func187,ntmps187
 go_upto_region 3 with fail
 go_loopw [3,8] (fun F i wl=>∃ (k:Nat) (last:Int),k<=l.length/\i=J I (k:Int)/\F=J I last/\-1<=last/\Hid (G=z2W last (l.drop k)/\Bl w wl)) (fun _ i _=>l.length - (intOf i).toNat)
 case atStart=>exact⟨0,-1,Nat.zero_le _,rfl,rfl,by omega,u.out.symm,Below.refl _ _⟩
 case round =>
  obtain⟨k,last,L,rfl,rfl,H,HR⟩:=hrel
  by_cases f:k<l.length
  ·have K:(k:Int)<(l.length:Int):=by omega
   obtain⟨x,y,hd⟩:=z4V f;obtain⟨b,off,rfl,-,g,hcell⟩:=E.out (by omega)
   have z:l.getD k (0,0)=x:=by simp[List.getD,y]
   obtain⟨p0,p1⟩:=z2j l k f;rw[z]at p0 p1;have c0:wr.cell? ⟨b,off+k * 2,none⟩=some (J I x.1):=(HR.out.2.cell (p:=⟨b,off+k * 2,none⟩) g).trans (hcell _ _ p0);have c1:wr.cell? ⟨b,off+k * 2+1,none⟩=some (J I x.2):=(HR.out.2.cell (p:=⟨b,off+k * 2+1,none⟩) g).trans (hcell _ _ p1);have n:Hid (G=(z8K last x && z2W x.1 (l.drop (k+1)))):=by have:=HR.out.1;rw[hd]at this;exact this
   have q:=J6 (HR.out.2.alloc HR.out.2.size (J5 #[J I x.1,J I x.2] 65));have B:Hid (∀ last,z8K last x=(decide (last<x.1) && decide (x.1<=5) && decide (1<=x.2) && decide (x.2<=1125899906842624))):=fun _=>rfl;have c:Hid (isV x.1=decide (0<=x.1/\x.1<6)):=rfl;clear HR hd y z p0 p1 hcell;obtain⟨a,d⟩:=x;dsimp only at c0 c1 c
   by_cases h1:last<a/\a<=5/\1<=d/\d<=1125899906842624
   ·obtain⟨h1,h2,h3,D⟩:=h1;have e:G=z2W a (l.drop (k+1)):=by rw[n.out,B.out];simp[h1,h2,h3,D]
    have j:=J6 e;have m:isV a=true:=by rw[c.out];simp;omega
    clear e n
    go_wp2_with (go_at_call 133;refine (z9S _ _).mono ?_;rintro e w'⟨rfl,rfl⟩)
    first | exact⟨⟨k+1,a,by omega,by go_num,rfl,by omega,j.out,q.out⟩,by simp[intOf];omega⟩ | ((repeat apply Exists.intro);exact⟨⟨k+1,a,by omega,by go_num,rfl,by omega,j.out,q.out⟩,rfl⟩)
   ·have e:G=false:=by
     rw[n.out,B.out];simp only[Bool.and_eq_false_iff,decide_eq_false_iff_not]
     by_cases q1:last<a
     ·by_cases q2:a<=5
      ·by_cases q3:1<=d
       ·exact .inl (.inr fun r=>h1 ⟨q1,q2,q3,r⟩)
       ·exact .inl (.inl (.inr q3))
      ·exact .inl (.inl (.inl (.inr q2)))
     ·exact .inl (.inl (.inl (.inl q1)))
    subst e;clear n u
    have s:¬ last<a∨(last<a/\isV a=false)∨(last<a/\isV a=true/\¬ 1<=d)∨(last<a/\isV a=true/\1<=d/\¬ d<=1125899906842624):=by
     by_cases q1:last<a
     ·by_cases q2:a<=5
      ·have m:isV a=true:=by rw[c.out];simp;omega
       by_cases q3:1<=d
       ·exact .inr (.inr (.inr ⟨q1,m,q3,fun r=>h1 ⟨q1,q2,q3,r⟩⟩))
       ·exact .inr (.inr (.inl ⟨q1,m,q3⟩))
      ·have m:isV a=false:=by rw[c.out];simp;omega
       exact .inr (.inl ⟨q1,m⟩)
     ·exact .inl q1
    clear h1
    rcases s with h1 | ⟨h1,h2⟩ | ⟨h1,h2,h3⟩ | ⟨h1,h2,h3,D⟩
    all_goals
     go_wp2_with (go_at_call 133;refine (z9S _ _).mono ?_;rintro e w'⟨rfl,rfl⟩)
     go_ret;exact⟨rfl,q.out⟩
  ·obtain rfl:k=l.length:=by omega
   have e:G=true:=by have:=HR.out.1;rw[List.drop_length]at this;exact this
   subst e;go_wp2;go_ret;exact⟨rfl,HR.out.2⟩
theorem q6s(l:List (Int×Int))(v:Value)(P:Nat->Prop)(w:World)(h:Rep P w v 2 8 (pwC l)):Calls prog 189 #[v] w fun e w'=>e=.returned (J3 (l.all z7J))/\Bl w w':=by
 obtain⟨A,C,rfl,hs,-,hc,-⟩:=h.open (z0c _) (by decide)
 have y:=J6 hc;have q:l.length<=17592186044404:=by omega
 obtain⟨G,j⟩:∃ G,l.all z7J=G:=⟨_,rfl⟩;have r:=J6 j;rw[j];clear hc h hs j
 go_enter func189,ntmps189
 go_upto_region 2 with fail
 go_loopw [7] (fun i wl=>∃ (k:Nat),k<=l.length/\i=J I (k:Int)/\Hid (G=(l.drop k).all z7J/\Bl w wl)) (fun i _=>l.length - (intOf i).toNat)
 case atStart=>exact⟨0,Nat.zero_le _,rfl,r.out.symm,Below.refl _ _⟩
 case round =>
  obtain⟨k,B,rfl,HR⟩:=hrel
  by_cases c:k<l.length
  ·have z:(k:Int)<(l.length:Int):=by omega
   obtain⟨x,s,hd⟩:=z4V c;obtain⟨b,off,rfl,-,d,hcell⟩:=y.out (by omega)
   have t:l.getD k (0,0)=x:=by simp[List.getD,s]
   obtain⟨p0,p1⟩:=z2j l k c;rw[t]at p0 p1;have c0:wr.cell? ⟨b,off+k * 2,none⟩=some (J I x.1):=(HR.out.2.cell (p:=⟨b,off+k * 2,none⟩) d).trans (hcell _ _ p0);have c1:wr.cell? ⟨b,off+k * 2+1,none⟩=some (J I x.2):=(HR.out.2.cell (p:=⟨b,off+k * 2+1,none⟩) d).trans (hcell _ _ p1);have g:Hid (G=(z7J x && (l.drop (k+1)).all z7J)):=by have:=HR.out.1;rw[hd,List.all_cons]at this;exact this
   have m:=J6 (HR.out.2.alloc HR.out.2.size (J5 #[J I x.1,J I x.2] 79));have u:Hid (z7J x=(decide (1<=x.1) && decide (x.1<=1099511627776) && decide (0<=x.2))):=rfl;clear HR hd s t p0 p1 hcell;obtain⟨a,n⟩:=x;dsimp only at c0 c1
   by_cases h1:1<=a/\a<=1099511627776/\0<=n
   ·obtain⟨h1,h2,h3⟩:=h1;have e:G=(l.drop (k+1)).all z7J:=by rw[g.out,u.out];simp[h1,h2,h3]
    have f:=J6 e;clear e g;go_wp2
    first | exact⟨⟨k+1,by omega,by go_num,f.out,m.out⟩,by simp[intOf];omega⟩ | ((repeat apply Exists.intro);exact⟨⟨k+1,by omega,by go_num,f.out,m.out⟩,rfl⟩)
   ·have e:G=false:=by
     rw[g.out,u.out]
     have:(decide (1<=a) && decide (a<=1099511627776) && decide (0<=n))=false:=by
      rw[Bool.eq_false_iff];intro h;simp only[Bool.and_eq_true,decide_eq_true_eq]at h;exact h1 ⟨h.1.1,h.1.2,h.2⟩
     dsimp only;rw[this,Bool.false_and]
    subst e;clear g r;have o:¬ 1<=a∨(1<=a/\¬ a<=1099511627776)∨(1<=a/\a<=1099511627776/\¬ 0<=n):=by omega
    clear h1
    rcases o with h1 | ⟨h1,h2⟩ | ⟨h1,h2,h3⟩
    all_goals
     go_wp2;go_ret;exact⟨rfl,m.out⟩
  ·obtain rfl:k=l.length:=by omega
   have e:G=true:=by have:=HR.out.1;rw[List.drop_length]at this;exact this
   subst e;go_wp2;go_ret;exact⟨rfl,HR.out.2⟩
end Kc
namespace Pv
open Go.RowKit
theorem z3P{w:World}{b:Nat}{p:Pr}{v:PrV}(h:CAt 58 w b (prC p v)):(w.cell? ⟨b,0,none⟩=some (J I p.h)/\w.cell? ⟨b,1,none⟩=some (J I p.t)/\w.cell? ⟨b,65,none⟩=some v.set/\w.cell? ⟨b,94,none⟩=some (J I p.ml)/\w.cell? ⟨b,95,none⟩=some (J I p.mn)/\w.cell? ⟨b,96,none⟩=some v.q)/\(z8M (J2 (some ⟨b,2,none⟩))).run prog w=.ok (J4 (stC p.s v.ws)) w:=
 ⟨⟨h.cell 0,h.cell 1,h.cell 65,h.cell 94,h.cell 95,h.cell 96⟩,z2y h⟩
attribute [local go_sem ↓] z1P
end Pv
namespace Pv
open Go.RowKit
def z2G(h:Int)(x:Lk):Bool:=z2m (-1) x.done && (!(x.on && x.gone) && decide (0<=x.base) && decide (x.base<=h) && z2W (-1) x.told && Ln.z1a x.out)
def z6f(L:Nat->Lk)(a:Int×Pkt):Bool:=decide (0<=a.1) && decide (a.1<=1) && (L a.1.toNat).on && decide (a.2.k≠1) && decide (Cd.z0n a.2.k a.2.i a.2.v a.2.n a.2.S a.2.D=0)
def z0o(p:Pr):Bool:=(z0k p.s && decide (0<=p.h) && decide (p.h<=1099511627775) && decide (0<=p.t) && decide (p.t<=1099511627776) && z2W (-1) p.set) && (z2G p.h (p.L 0) && z2G p.h (p.L 1)) && p.q.all (z6f p.L)
structure GG(p:Pr)(G:Bool):Prop where
 one:(z0k p.s && decide (0<=p.h) && decide (p.h<=1099511627775) && decide (0<=p.t) && decide (p.t<=1099511627776) && z2W (-1) p.set)=false->G=false
 lks:∀ k,k<2->z2G p.h (p.L k)=false->G=false
 qus:∀ (i:Nat) (x:Int×Pkt),p.q[i]?=some x->z6f p.L x=false->G=false
 all:(z0k p.s && decide (0<=p.h) && decide (p.h<=1099511627775) && decide (0<=p.t) && decide (p.t<=1099511627776) && z2W (-1) p.set)=true->(∀ k,k<2->z2G p.h (p.L k)=true)->(∀ (i:Nat) (x:Int×Pkt),p.q[i]?=some x->z6f p.L x=true)->G=true
theorem j3S(p:Pr):GG p (z0o p):=by
 refine⟨fun h=>by simp only[z0o,h,Bool.false_and],fun k b h=>?_,fun i x a h=>?_,fun h1 h2 h3=>?_⟩
 ·have e:(z2G p.h (p.L 0) && z2G p.h (p.L 1))=false:=by
   match k,b with
   | 0,_=>rw[h,Bool.false_and]
   | 1,_=>rw[h,Bool.and_false]
  simp only[z0o,e,Bool.and_false,Bool.false_and]
 ·have e:p.q.all (z6f p.L)=false:=by
   rw[List.all_eq_false];exact⟨x,List.mem_of_getElem? a,by rw[h];simp⟩
  simp only[z0o,e,Bool.and_false]
 ·have e:p.q.all (z6f p.L)=true:=by
   rw[List.all_eq_true];intro x a;obtain⟨i,c⟩:=List.getElem?_of_mem a;exact h3 i x c
  simp only[z0o,h1,h2 0 (by omega),h2 1 (by omega),e,Bool.and_self]
end Pv
section
open Go.RowKit
theorem z6n{s:St}{d v n:Int}{y:Wt}(h:z0Z s d v≠0):z0N s d v n y=(s,z0Z s d v):=if_neg h
section
variable {s:St} {d v n:Int} {y:Wt} (h:z0Z s d v=0)
include h
theorem q3D(h1:¬ ((decide (0<n) && inA n)=true/\0<=y.hei/\0<=y.due)):z0N s d v n y=(s,2):=by rw[z0N,if_pos h,if_neg h1]
theorem q2Q(h1:(decide (0<n) && inA n)=true/\0<=y.hei/\0<=y.due)(h2:¬ n<=s.S d.toNat v.toNat):z0N s d v n y=(s,7):=by rw[z0N,if_pos h,if_pos h1,if_neg h2]
theorem q3m(h1:(decide (0<n) && inA n)=true/\0<=y.hei/\0<=y.due)(h2:n<=s.S d.toNat v.toNat)(h3:¬ (s.W.length<60/\s.next<1125899906842624)):z0N s d v n y=(s,6):=by rw[z0N,if_pos h,if_pos h1,if_pos h2,if_neg h3]
theorem q3k(h1:(decide (0<n) && inA n)=true/\0<=y.hei/\0<=y.due)(h2:n<=s.S d.toNat v.toNat)(h3:s.W.length<60/\s.next<1125899906842624)(a:woE (s.V v.toNat) n≠0):z0N s d v n y=(s,woE (s.V v.toNat) n):=by rw[z0N,if_pos h,if_pos h1,if_pos h2,if_pos h3,if_neg a]
theorem q2K(h1:(decide (0<n) && inA n)=true/\0<=y.hei/\0<=y.due)(h2:n<=s.S d.toNat v.toNat)(h3:s.W.length<60/\s.next<1125899906842624)(a:woE (s.V v.toNat) n=0)(c:(z1e s.b (woN (s.V v.toNat) n)).2≠0):z0N s d v n y=(s,(z1e s.b (woN (s.V v.toNat) n)).2):=by rw[z0N,if_pos h,if_pos h1,if_pos h2,if_pos h3,if_pos a,if_neg c]
theorem q2G(h1:(decide (0<n) && inA n)=true/\0<=y.hei/\0<=y.due)(h2:n<=s.S d.toNat v.toNat)(h3:s.W.length<60/\s.next<1125899906842624)(a:woE (s.V v.toNat) n=0)(c:(z1e s.b (woN (s.V v.toNat) n)).2=0):z0N s d v n y=(j4v s d.toNat v.toNat (woN (s.V v.toNat) n) n (z1e s.b (woN (s.V v.toNat) n)).1 { y with num:=s.next,d:=d,v:=v,amt:=woN (s.V v.toNat) n },0):=by rw[z0N,if_pos h,if_pos h1,if_pos h2,if_pos h3,if_pos a,if_pos c]
end
theorem q8B(s:St)(ao:Option Addr)(sb so c:Nat)(d v n:Int)(y:Wt)(w:World)(hc:s.W.length<=c)(a:z2L w ao sb so s.W) :
  Calls prog 71 #[J4 (stC s (J1 ao s.W.length c)),J I d,J I v,J I n,J4 #[J I y.num,J I y.d,J I y.v,J I y.amt,J I y.hei,J I y.due,J I y.h0,J I y.h1]] w fun e w'=>z6p w.heap.size sb w (z0N s d v n y) e w':=by
 by_cases h:z0Z s d v=0
 ·obtain⟨f,⟨v0,v1⟩,g,i⟩:=q0C h;obtain⟨v,rfl⟩:=Int.eq_ofNat_of_zero_le v0;obtain⟨d,rfl⟩:=Int.eq_ofNat_of_zero_le g;exact j1x s ao sb so c d v n y w hc a _ f (by omega) (by omega) _ _ _ _ rfl rfl (q5Q s.b _) (q3D h) (q2Q h) (q3m h) (q3k h) (q2K h) (q2G h)
 ·exact j3a s ao sb so c d v n y w hc a _ h (z6n h)
end
section
theorem z0h(s:St):z0k s=true↔s.b.good=true/\1<=s.next/\s.next<=1125899906842624/\s.W.length<=60/\wOk s.next 0 s.W=true/\(∀ k,k<6->vOk (s.V k)=true/\z3G s.S k 4=true/\psh s.S k 4=(s.V k).sh)/\z8C s.V 6=s.b.bo/\z2V s.W=s.b.wa/\z3S s.V 6=s.b.bu:=by
 have hp:pvs s 6=true↔∀ k,k<6->vOk (s.V k)=true/\z3G s.S k 4=true/\psh s.S k 4=(s.V k).sh:=by
  constructor
  ·intro h k i;have:=q4K h i;simp only[j4O,q5h,Bool.and_eq_true,decide_eq_true_eq]at this;exact⟨this.1,this.2.1,this.2.2⟩
  ·intro h;simp only[pvs,j4O,q5h,Bool.and_eq_true,decide_eq_true_eq,true_and];exact⟨⟨⟨⟨⟨h 0 (by omega),h 1 (by omega)⟩,h 2 (by omega)⟩,h 3 (by omega)⟩,h 4 (by omega)⟩,h 5 (by omega)⟩
 unfold z0k bal;simp only[Bool.and_eq_true,decide_eq_true_eq,hp]
 constructor
 ·rintro⟨⟨⟨⟨⟨⟨h1,h2⟩,h3⟩,a⟩,c⟩,d⟩,⟨e,f⟩,g⟩;exact⟨h1,h2,h3,a,c,d,e,f,g⟩
 ·rintro⟨h1,h2,h3,a,c,d,e,f,g⟩;exact⟨⟨⟨⟨⟨⟨h1,h2⟩,h3⟩,a⟩,c⟩,d⟩,⟨e,f⟩,g⟩
theorem z1O(x:Vd):vOk x=true↔(0<=x.tok/\x.tok<=1125899906842624)/\(0<=x.sh/\x.sh<=1125899906842624)/\(0<=x.lost/\x.lost<=1125899906842624)/\(0<x.tok->x.sh≠0)/\(x.dead=true->x.jail=true):=by
 unfold vOk;simp only[Bool.and_eq_true,z0I,Bool.not_eq_true',Bool.and_eq_false_iff,decide_eq_false_iff_not,Bool.or_eq_true]
 constructor
 ·rintro⟨⟨⟨⟨h1,h2⟩,h3⟩,b⟩,a⟩;refine⟨h1,h2,h3,fun h=>b.resolve_left (fun h'=>h' h),fun h=>?_⟩
  rcases a with a | a
  ·exact a
  ·rw[h]at a;cases a
 ·rintro⟨h1,h2,h3,b,a⟩;refine⟨⟨⟨⟨h1,h2⟩,h3⟩,?_⟩,?_⟩
  ·by_cases h:0<x.tok
   ·exact .inr (b h)
   ·exact .inl h
  ·cases hd:x.dead
   ·exact .inr rfl
   ·exact .inl (a hd)
theorem six{v:Nat}(h:v<6):v=0∨v=1∨v=2∨v=3∨v=4∨v=5:=by omega
theorem four{v:Nat}(h:v<4):v=0∨v=1∨v=2∨v=3:=by omega
theorem z7x(V:Nat->Vd)(v:Nat)(x:Vd)(a:v<6):z8C (z1Q V v x) 6=z8C V 6+x.tok - (V v).tok:=by
 rcases six a with rfl | rfl | rfl | rfl | rfl | rfl <;> simp[z8C,z1Q] <;> omega
theorem z6d(V:Nat->Vd)(v:Nat)(x:Vd)(a:v<6):z3S (z1Q V v x) 6=z3S V 6+x.lost - (V v).lost:=by
 rcases six a with rfl | rfl | rfl | rfl | rfl | rfl <;> simp[z3S,z1Q] <;> omega
theorem q9L(S:Nat->Nat->Int)(d v:Nat)(y:Int)(hd:d<4):psh (z6T S d v y) v 4=psh S v 4+y - S d v:=by
 rcases four hd with rfl | rfl | rfl | rfl <;> simp[psh,z6T] <;> omega
theorem q2c(S:Nat->Nat->Int)(d v k:Nat)(y:Int)(a:k≠v):psh (z6T S d v y) k 4=psh S k 4:=by
 simp[psh,z6T,a]
theorem q1U(S:Nat->Nat->Int)(d v k:Nat)(y:Int)(h:z3G S k 4=true)(a:inA y=true):z3G (z6T S d v y) k 4=true:=by
 simp only[z3G,Bool.and_eq_true,true_and]at *;obtain⟨⟨⟨h0,h1⟩,h2⟩,h3⟩:=h;refine⟨⟨⟨?_,?_⟩,?_⟩,?_⟩ <;> unfold z6T <;> split <;> assumption
theorem q8D{V:Nat->Vd}(h:∀ k,k<6->0<=(V k).tok){v:Nat}(a:v<6):(V v).tok<=z8C V 6:=by
 have h0:=h 0 (by omega);have h1:=h 1 (by omega);have h2:=h 2 (by omega);have h3:=h 3 (by omega);have b:=h 4 (by omega);have c:=h 5 (by omega)
 simp only[z8C]
 rcases six a with rfl | rfl | rfl | rfl | rfl | rfl <;> omega
theorem j4J{S:Nat->Nat->Int}{k:Nat}(h:z3G S k 4=true){d:Nat}(hd:d<4):S d k<=psh S k 4:=by
 have h0:=z0I.1 (z7h h (d:=0) (by omega));have h1:=z0I.1 (z7h h (d:=1) (by omega));have h2:=z0I.1 (z7h h (d:=2) (by omega));have h3:=z0I.1 (z7h h (d:=3) (by omega))
 simp only[psh]
 rcases four hd with rfl | rfl | rfl | rfl <;> omega
theorem q9Y{b:Bk}{d:Nat}{n:Int}(hd:d<4)(h:(z2T b d n).2=0):(z2T b d n).1.good=true/\(z2T b d n).1.bo=b.bo+n/\(z2T b d n).1.wa=b.wa/\(z2T b d n).1.bu=b.bu:=by
 refine⟨((q8E b d n).yes h).2.1,?_⟩;unfold z2T at *;rw[if_pos (by omega)]at *
 obtain⟨-,-,-,-,a⟩:=q2C h;rw[a]
 rcases four hd with rfl | rfl | rfl | rfl <;> simp[Bk.put,Bk.get]
theorem j3B{s:St}{B:Bk}{d v:Nat}{t n:Int}(z:z0k s=true)(hd:d<4)(l:v<6)(x:B.good=true)(m:B.bo=s.b.bo+t)(o:B.wa=s.b.wa)(p:B.bu=s.b.bu)
  (y:0<=(s.V v).tok+t) (q:0<=s.S d v+n) (A:(s.V v).sh+n<=1125899906842624) (e:0<(s.V v).tok+t->(s.V v).sh+n≠0):z0k (z8S { s with b:=B } d v t n)=true:=by
 rw[z0h]at *;obtain⟨h1,h2,h3,C,D,f,E,F,G⟩:=z;obtain⟨a,r,g⟩:=f v l;rw[z1O]at a;have H:=(z6a B).1 x;have h:z8C (z1Q s.V v { s.V v with tok:=(s.V v).tok+t,sh:=(s.V v).sh+n }) 6=B.bo:=by rw[z7x _ _ _ l,E,m];show s.b.bo+((s.V v).tok+t) - (s.V v).tok=_;omega
 have u:∀ k,k<6->0<=(z1Q s.V v { s.V v with tok:=(s.V v).tok+t,sh:=(s.V v).sh+n } k).tok:=fun k i=>by
  unfold z1Q
  split
  ·exact y
  ·exact ((z1O _).1 (f k i).1).1.1
 have j:=q8D u l;rw[h]at j;simp only[z1Q,if_true]at j;have w:=j4J r hd;rw[g]at w;refine⟨x,h2,h3,C,D,fun k i=>?_,h,F.trans o.symm,?_⟩
 ·show vOk (z1Q s.V v _ k)=true/\z3G (z6T s.S d v _) k 4=true/\psh (z6T s.S d v _) k 4=(z1Q s.V v _ k).sh
  refine⟨?_,q1U _ _ _ _ _ (f k i).2.1 (z0I.2 ⟨q,by show s.S d v+n<=_;omega⟩),?_⟩
  ·unfold z1Q
   split
   ·rw[z1O];exact⟨⟨y,by show (s.V v).tok+t<=_;omega⟩,⟨by show 0<=(s.V v).sh+n;omega,A⟩,a.2.2.1,e,a.2.2.2.2⟩
   ·exact (f k i).1
  ·by_cases c:k=v
   ·subst c;rw[q9L _ _ _ _ hd,g];simp only[z1Q,if_true];omega
   ·rw[q2c _ _ _ _ _ c,(f k i).2.2];simp only[z1Q,if_neg c]
 ·show z3S (z1Q s.V v _) 6=B.bu
  rw[z6d _ _ _ l,G,p];simp only;omega
theorem q5g{s:St}{d v n:Int}(h:(z0Q s d v n).2=0):∃ i j:Nat,d=i/\v=j/\i<4/\j<6/\z0k s=true/\(s.V j).dead=false/\0<n/\n<=1125899906842624/\shE (s.V j) n=0/\(z2T s.b i n).2=0/\z0Q s d v n=(z8S { s with b:=(z2T s.b i n).1 } i j n (shN (s.V j) n),0):=by
 have a:z0Z s d v=0:=Decidable.byContradiction fun a=>by rw[q2n a]at h;exact a h
 obtain⟨f,⟨v0,v1⟩,g,k⟩:=q0C a;obtain⟨j,rfl⟩:=Int.eq_ofNat_of_zero_le v0;obtain⟨i,rfl⟩:=Int.eq_ofNat_of_zero_le g;refine⟨i,j,rfl,rfl,by omega,by omega,f,?_⟩
 have h1:(s.V j).dead=false:=by
  cases hd:(s.V j).dead with
  | false=>rfl
  | true=>rw[z9q a hd]at h;cases h
 have h2:(decide (0<n) && inA n)=true:=by
  cases hd:(decide (0<n) && inA n) with
  | true=>rfl
  | false=>rw[z8p a h1 hd]at h;cases h
 have h3:shE (s.V j) n=0:=Decidable.byContradiction fun h3=>by rw[q2h a h1 h2 h3]at h;exact h3 h
 have e:(z2T s.b i n).2=0:=Decidable.byContradiction fun e=>by rw[z9n a h1 h2 h3 e]at h;exact e h
 have c:=h2;simp only[Bool.and_eq_true,decide_eq_true_eq,z0I]at c;exact⟨h1,c.1,c.2.2,h3,e,q3M a h1 h2 h3 e⟩
theorem j8B{x:Vd}{n:Int}(d:vOk x=true)(f:0<n)(g:n<=1125899906842624)(h:shE x n=0):0<shN x n/\x.sh+shN x n<=1125899906842624/\shN x n * x.tok<=n * x.sh:=by
 rw[z1O]at d;obtain⟨⟨t0,t1⟩,⟨e,i⟩,-,hp,-⟩:=d;unfold shE at h;unfold shN
 by_cases hs:x.sh=0
 ·have a:x.tok=0:=by
   rcases Int.lt_or_le 0 x.tok with h1 | h1
   ·exact absurd hs (hp h1)
   ·omega
  rw[if_pos hs,hs,a];refine⟨f,by omega,?_⟩
  simp
 ·rw[if_neg hs]at h ⊢
  by_cases a:x.tok=0
  ·rw[if_pos a]at h;cases h
  ·rw[if_neg a]at h ⊢
   by_cases b:mdE n x.sh x.tok=0/\inA (x.sh+mdN n x.sh x.tok)=true
   ·rw[if_pos b]at h ⊢;have c:=z0I.1 b.2;have hb:=z4K n x.sh x.tok;refine⟨?_,c.2,?_⟩
    ·by_cases h0:mdN n x.sh x.tok=0
     ·rw[if_pos h0]at h;cases h
     ·omega
    ·unfold mdN
     split
     ·rw[Int.zero_mul];exact Int.mul_nonneg (by omega) e
     ·split
      ·exact Int.ediv_mul_le _ a
      ·rw[Int.zero_mul];exact Int.mul_nonneg (by omega) e
   ·rw[if_neg b]at h;cases h
theorem y1I{x:Vd}{g k:Int}(a:vOk x=true)(c:0<g)(hs:g<=x.sh)(b:g * x.tok<=k * x.sh):mdE g x.tok x.sh=0/\mdN g x.tok x.sh<=x.tok/\mdN g x.tok x.sh<=k:=by
 rw[z1O]at a;obtain⟨⟨t0,t1⟩,⟨d,e⟩,-,-,-⟩:=a
 have q1:g * x.tok / x.sh<=x.tok:=by
  apply Int.ediv_le_of_le_mul (by omega)
  rw[Int.mul_comm x.tok];exact Int.mul_le_mul_of_nonneg_right hs t0
 have q2:g * x.tok / x.sh<=k:=Int.ediv_le_of_le_mul (by omega) b
 have c1:¬ (g<0∨x.tok<0∨x.sh<1):=by omega
 have c2:g * x.tok / x.sh<=1125899906842624:=by omega
 unfold mdE mdN;simp only[if_neg c1,if_pos c2];exact⟨trivial,q1,q2⟩
end
section
def z5N(t:Int)(x:Wt):Bool:=decide (x.due<=t) && decide (x.h0=0/\x.h1=0)
def z1x(t:Int)(W:List Wt):List Wt:=W.filter fun x=>!z5N t x
def z7r(t:Int)(W:List Wt):List Wt:=W.filter (z5N t)
def z2r(t:Int)(W:List Wt):List Int:=(z7r t W).map (·.num)
def z5o(t:Int)(b:Bk)(W:List Wt):Bk:=W.foldl (fun b x=>if z5N t x=true then (z8J b x.d x.amt).1 else b) b
def z5K(s:St)(t:Int):St:={ s with b:=z5o t s.b s.W,W:=z1x t s.W }
theorem z1z{W:List Wt}{k:Nat}{x:Wt}(h:W[k]?=some x):W.take (k+1)=W.take k ++ [x]:=by
 rw[List.take_add_one,h];rfl
theorem z3E:∀ A B:List Wt,z2V (A ++ B)=z2V A+z2V B
 | [],B=>by simp[z2V]
 | x :: A,B=>by simp only[List.cons_append,z2V,z3E A B];omega
theorem z2N{next:Int}:∀ {W:List Wt} {last:Int},wOk next last W=true->∀ x∈W,last<x.num/\x.num<next/\(0<=x.d/\x.d<4)/\(0<=x.v/\x.v<6)/\(0<=x.amt/\x.amt<=1125899906842624)/\0<=x.hei/\0<=x.due
 | [],_,_,x,a=>by cases a
 | y :: W,last,h,x,a=>by
  simp only[wOk,q1t,Bool.and_eq_true,decide_eq_true_eq,z5J,z3p,z0I]at h;obtain⟨⟨⟨⟨⟨⟨⟨h1,h2⟩,h3⟩,b⟩,c⟩,e⟩,f⟩,g⟩:=h
  rcases List.mem_cons.1 a with rfl | a
  ·exact⟨h1,h2,h3,b,c,e,f⟩
  ·have:=z2N g x a;exact⟨by omega,this.2⟩
theorem q7D{next:Int}:∀ {W:List Wt} {last a:Int},wOk next last W=true->a<last->wOk next a W=true
 | [],_,_,_,_=>rfl
 | y :: W,last,a,h,hl=>by
  simp only[wOk,q1t,Bool.and_eq_true,decide_eq_true_eq]at h ⊢;obtain⟨⟨⟨⟨⟨⟨⟨h1,h2⟩,h3⟩,b⟩,c⟩,d⟩,e⟩,f⟩:=h;exact⟨⟨⟨⟨⟨⟨⟨by omega,h2⟩,h3⟩,b⟩,c⟩,d⟩,e⟩,f⟩
theorem z9K{next:Int}(p:Wt->Bool):∀ {W:List Wt} {last:Int},wOk next last W=true->wOk next last (W.filter p)=true
 | [],_,_=>rfl
 | y :: W,last,h=>by
  have b:=z2N h y (List.mem_cons_self ..);simp only[wOk,Bool.and_eq_true]at h;have a:=z9K p h.2;rw[List.filter_cons]
  split
  ·simp only[wOk,Bool.and_eq_true];exact⟨h.1,a⟩
  ·exact q7D a (by omega)
theorem z4p:∀ {W:List Wt},(∀ x∈W,0<=x.amt)->0<=z2V W
 | [],_=>Int.le_refl _
 | x :: W,h=>by
  have:=h x (List.mem_cons_self ..);have:=z4p (W:=W) fun y a=>h y (List.mem_cons_of_mem _ a);simp only[z2V];omega
theorem z6W(p:Wt->Bool):∀ W:List Wt,z2V (W.filter p)+z2V (W.filter fun x=>!p x)=z2V W
 | []=>rfl
 | x :: W=>by
  have:=z6W p W;rw[List.filter_cons,List.filter_cons];cases p x <;> simp[z2V] <;> omega
theorem z6c(t:Int)(W:List Wt)(x:Wt):z1x t (W ++ [x])=if z5N t x=true then z1x t W else z1x t W ++ [x]:=by
 unfold z1x;rw[List.filter_append];cases h:z5N t x <;> simp[h]
theorem z4P(t:Int)(W:List Wt)(x:Wt):z7r t (W ++ [x])=if z5N t x=true then z7r t W ++ [x] else z7r t W:=by
 unfold z7r;rw[List.filter_append];cases h:z5N t x <;> simp[h]
theorem z7T(t:Int)(b:Bk)(W:List Wt)(x:Wt):z5o t b (W ++ [x])=if z5N t x=true then (z8J (z5o t b W) x.d x.amt).1 else z5o t b W:=by
 unfold z5o;rw[List.foldl_append];rfl
theorem q4Q{b:Bk}{d n:Int}(hd:0<=d/\d<4)(c:b.good=true)(h0:0<=n)(h1:n<=1125899906842624)(h2:n<=b.wa):(z8J b d n).2=0/\(z8J b d n).1.good=true/\(z8J b d n).1.bo=b.bo/\(z8J b d n).1.wa=b.wa - n/\(z8J b d n).1.bu=b.bu:=by
 have h:=q0N (f:=5) (t:=d.toNat) c h0 h1 h2;have a:=(j3J b d n).yes;unfold z8J at *;rw[if_pos hd]at *;rw[h]at a ⊢;refine⟨rfl,(a rfl).2.1,?_⟩;have e:d.toNat<4:=by omega
 generalize d.toNat=i at *
 rcases four e with rfl | rfl | rfl | rfl <;> simp[Bk.put,Bk.get]
theorem j4I{s:St}(c:z0k s=true)(t:Int){k:Nat}{x:Wt}(d:s.W[k]?=some x):x.amt<=s.b.wa - z2V (z7r t (s.W.take k)):=by
 obtain⟨h1,h2,h3,i,e,j,l,m,n⟩:=(z0h s).1 c;have hmem:=z2N e;obtain⟨f,g⟩:=List.getElem?_eq_some_iff.1 d;have h:s.W=s.W.take k ++ (x :: s.W.drop (k+1)):=by rw[<- g,<- List.drop_eq_getElem_cons f,List.take_append_drop]
 have o:z2V s.W=z2V (s.W.take k)+(x.amt+z2V (s.W.drop (k+1))):=by
  conv=>lhs;rw[h]
  rw[z3E];rfl
 have p:=z6W (z5N t) (s.W.take k);have n1:=z4p (W:=(s.W.take k).filter fun x=>!z5N t x) fun y a=>(hmem y (List.mem_of_mem_take (List.mem_filter.1 a).1)).2.2.2.2.1.1;have q:=z4p (W:=s.W.drop (k+1)) fun y a=>(hmem y (List.mem_of_mem_drop a)).2.2.2.2.1.1;unfold z7r;omega
theorem q8t{s:St}(d:z0k s=true)(t:Int):∀ k,k<=s.W.length->(z5o t s.b (s.W.take k)).good=true/\(z5o t s.b (s.W.take k)).bo=s.b.bo/\(z5o t s.b (s.W.take k)).bu=s.b.bu/\(z5o t s.b (s.W.take k)).wa=s.b.wa - z2V (z7r t (s.W.take k)):=by
 obtain⟨h1,h2,h3,o,h,p,q,r,u⟩:=(z0h s).1 d;intro k
 induction k with
 | zero=>intro _;refine⟨h1,rfl,rfl,?_⟩;simp[z7r,z5o,z2V]
 | succ k ih =>
  intro v;obtain⟨i1,e,f,a⟩:=ih (by omega)
  have g:s.W[k]?=some (s.W[k]'(by omega)):=List.getElem?_eq_getElem _
  have c:=z2N h _ (List.getElem_mem (show k<s.W.length by omega))
  rw[z1z g,z7T,z4P];have i:=j4I d t g;generalize s.W[k]'(by omega)=x at *
  split
  ·obtain⟨w,j,l,m,n⟩:=q4Q c.2.2.1 i1 c.2.2.2.2.1.1 c.2.2.2.2.1.2 (by rw[a];omega)
   refine⟨j,by rw[l,e],by rw[n,f],?_⟩
   rw[m,a,z3E];simp only[z2V];omega
  ·exact⟨i1,e,f,a⟩
theorem j2E{s:St}(a:z0k s=true)(t:Int){k:Nat}{x:Wt}(c:s.W[k]?=some x)(hd:z5N t x=true):z8J (z5o t s.b (s.W.take k)) x.d x.amt=(z5o t s.b (s.W.take (k+1)),0):=by
 obtain⟨g,h⟩:=List.getElem?_eq_some_iff.1 c;obtain⟨i1,l,m,i⟩:=q8t a t k (by omega)
 have e:=z2N ((z0h s).1 a).2.2.2.2.1 x (h ▸ List.getElem_mem g);have f:=j4I a t c;obtain⟨j,-⟩:=q4Q e.2.2.1 i1 e.2.2.2.2.1.1 e.2.2.2.2.1.2 (by rw[i];exact f)
 rw[z1z c,z7T,if_pos hd,<- j]
theorem q7z{s:St}(a:z0k s=true)(t:Int):(z5K s t).b.good=true/\(z5K s t).b.bo=s.b.bo/\(z5K s t).b.bu=s.b.bu/\(z5K s t).b.wa=s.b.wa - z2V (z7r t s.W):=by
 have:=q8t a t s.W.length (Nat.le_refl _)
 rwa [List.take_length]at this
theorem q4b{s:St}(a:z0k s=true)(t:Int):z0k (z5K s t)=true:=by
 obtain⟨b,c,d,e⟩:=q7z a t;rw[z0h]at a ⊢;obtain⟨h1,h2,h3,f,g,h,i,j,k⟩:=a;refine⟨b,h2,h3,?_,z9K _ g,h,i.trans c.symm,?_,k.trans d.symm⟩
 ·exact Nat.le_trans (List.length_filter_le _ _) f
 ·rw[e,<- j,<- z6W (z5N t) s.W]
  show z2V (z1x t s.W)=_
  unfold z7r z1x;omega
end
section
def ptN(n f:Int):Int:=Ra.ptN n f
def ptE(n f:Int):Int:=Ra.ptE n f
theorem j2i{n f:Int}(a:0<=n/\n<=1125899906842624)(b:0<=f/\f<=1000):ptE n f=0/\0<=ptN n f/\ptN n f<=n:=by
 obtain⟨h1,h2⟩:=Ra.j1q (n:=n) (f:=f) ⟨Ra.q7H.2 a,b⟩;refine⟨h2,?_,?_⟩
 ·show 0<=Ra.ptN n f
  rw[h1];exact Int.ediv_nonneg (Int.mul_nonneg a.1 b.1) (by omega)
 ·show Ra.ptN n f<=n
  rw[h1];exact Int.ediv_le_of_le_mul (by omega) (Int.mul_le_mul_of_nonneg_left b.2 a.1)
def q7I(v h:Int)(x:Wt):Bool:=decide (x.v=v) && decide (h<=x.hei)
def slX(v h f:Int)(x:Wt):Wt:=if q7I v h x=true then { x with amt:=x.amt - ptN x.amt f } else x
def slW(v h f:Int)(W:List Wt):List Wt:=W.map (slX v h f)
def slP(v h f:Int)(x:Wt):Int:=if q7I v h x=true then ptN x.amt f else 0
def slN(v h f:Int):List Wt->Int
 | []=>0
 | x :: W=>slP v h f x+slN v h f W
theorem z9l(v h f:Int):∀ A B:List Wt,slN v h f (A ++ B)=slN v h f A+slN v h f B
 | [],B=>by simp[slN]
 | x :: A,B=>by simp only[List.cons_append,slN,z9l v h f A B];omega
theorem j5e{v h f:Int}{x:Wt}(a:0<=x.amt/\x.amt<=1125899906842624)(b:0<=f/\f<=1000):0<=slP v h f x/\slP v h f x<=x.amt:=by
 have:=j2i a b;unfold slP
 split <;> omega
theorem q7N{v h f:Int}(a:0<=f/\f<=1000):∀ {W:List Wt},(∀ x∈W,0<=x.amt/\x.amt<=1125899906842624)->0<=slN v h f W/\slN v h f W<=z2V W
 | [],_=>⟨Int.le_refl _,Int.le_refl _⟩
 | x :: W,h1=>by
  have:=j5e (v:=v) (h:=h) (h1 x (List.mem_cons_self ..)) a;have:=q7N (v:=v) (h:=h) a (W:=W) fun y b=>h1 y (List.mem_cons_of_mem _ b);simp only[slN,z2V];omega
theorem j0J(v h f:Int):∀ W:List Wt,z2V (slW v h f W)=z2V W - slN v h f W
 | []=>rfl
 | x :: W=>by
  have:=j0J v h f W;simp only[slW,List.map_cons,z2V,slN]at *
  have e:(slX v h f x).amt=x.amt - slP v h f x:=by
   unfold slX slP
   split
   ·rfl
   ·omega
  omega
theorem j8g(v h f:Int){W:List Wt}{k:Nat}{x:Wt}(a:W[k]?=some x):slW v h f (W.take (k+1)) ++ W.drop (k+1)=(slW v h f (W.take k) ++ W.drop k).set k (slX v h f x)/\(slW v h f (W.take k) ++ W.drop k)[k]?=some x/\slN v h f (W.take (k+1))=slN v h f (W.take k)+slP v h f x:=by
 obtain⟨c,d⟩:=List.getElem?_eq_some_iff.1 a;have b:(slW v h f (W.take k)).length=k:=by unfold slW;rw[List.length_map,List.length_take];omega
 have hd:W.drop k=x :: W.drop (k+1):=by rw[<- d];exact List.drop_eq_getElem_cons c
 refine⟨?_,?_,?_⟩
 ·rw[z1z a,hd];unfold slW at *;rw[List.map_append,List.set_append_right _ _ (by omega),b,Nat.sub_self,List.append_assoc]
  rfl
 ·rw[List.getElem?_append_right (by omega),b,Nat.sub_self,hd]
  rfl
 ·rw[z1z a,z9l]
  simp[slN]
theorem z4q{v h f:Int}{x:Wt}(a:q7I v h x=false):slX v h f x=x/\slP v h f x=0:=by
 unfold slX slP;rw[if_neg (by simp[a]),if_neg (by simp[a])]
 exact⟨rfl,rfl⟩
theorem j8O{v h f:Int}{x:Wt}(a:q7I v h x=true):slX v h f x={ x with amt:=x.amt - ptN x.amt f }/\slP v h f x=ptN x.amt f:=by
 unfold slX slP;rw[if_pos a,if_pos a];exact⟨rfl,rfl⟩
theorem z6u{W:List Wt}{k:Nat}{x:Wt}(h:W[k]?=some x):W.set k x=W:=by
 obtain⟨a,rfl⟩:=List.getElem?_eq_some_iff.1 h;exact List.set_getElem_self a
end
section
def z7l(x:Vd)(pb a:Int):Vd:={ x with tok:=x.tok - pb,lost:=x.lost+(pb+a) }
def z1Y(s:St)(v:Nat)(h f:Int):St:={ s with b:=(z3d s.b (ptN (s.V v).tok f) (slN v h f s.W)).1,V:=z1Q s.V v (z7l (s.V v) (ptN (s.V v).tok f) (slN v h f s.W)),W:=slW v h f s.W }
theorem q9G{b:Bk}{x y:Int}(d:b.good=true)(a:0<=x/\x<=b.bo)(c:0<=y/\y<=b.wa):(z3d b x y).2=0/\(z3d b x y).1.good=true/\(z3d b x y).1.bo=b.bo - x/\(z3d b x y).1.wa=b.wa - y/\(z3d b x y).1.bu=b.bu+(x+y):=by
 have hb:=(z6a b).1 d;have h1:=q0N (f:=4) (t:=6) d a.1 (by omega) a.2
 have e:=(q0t (f:=4) (t:=6) (.inr (.inr (.inr (.inl ⟨rfl,rfl⟩)))) d a.1 a.2).1;have h2:=q0N (f:=5) (t:=6) e c.1 (by omega) (show y<=b.wa from c.2)
 have g:=(q0t (f:=5) (t:=6) (.inr (.inr (.inr (.inr ⟨rfl,rfl⟩)))) e c.1 (show y<=b.wa from c.2)).1;unfold z3d;rw[h1];simp only[if_true];rw[h2];simp only[if_true];refine⟨trivial,g,rfl,rfl,?_⟩
 show b.bu+x+y=_
 omega
theorem q8a(v h f:Int)(x:Wt):(slX v h f x).num=x.num/\(slX v h f x).d=x.d/\(slX v h f x).v=x.v/\(slX v h f x).hei=x.hei/\(slX v h f x).due=x.due/\(slX v h f x).amt=x.amt - slP v h f x:=by
 unfold slX slP
 split
 ·exact⟨rfl,rfl,rfl,rfl,rfl,rfl⟩
 ·exact⟨rfl,rfl,rfl,rfl,rfl,by omega⟩
theorem q0Z{next v h f:Int}(a:0<=f/\f<=1000):∀ {W:List Wt} {last:Int},wOk next last W=true->wOk next last (slW v h f W)=true
 | [],_,_=>rfl
 | x :: W,last,hw=>by
  obtain⟨k1,b,c,d,e,g⟩:=q8a v h f x;simp only[wOk,q1t,Bool.and_eq_true,decide_eq_true_eq,z5J,z3p,z0I]at hw;obtain⟨⟨⟨⟨⟨⟨⟨h1,h2⟩,h3⟩,i⟩,j⟩,k⟩,l⟩,m⟩:=hw;have hp:=j5e (v:=v) (h:=h) j a;have n:=q0Z (v:=v) (h:=h) a m;simp only[slW,List.map_cons,wOk,q1t,Bool.and_eq_true,decide_eq_true_eq,z5J,z3p,z0I,k1,b,c,d,e,g];exact⟨⟨⟨⟨⟨⟨⟨h1,h2⟩,h3⟩,i⟩,by omega⟩,k⟩,l⟩,n⟩
theorem j3A{V:Nat->Vd}(h:∀ k,k<6->0<=(V k).lost){v:Nat}(a:v<6):(V v).lost<=z3S V 6:=by
 have h0:=h 0 (by omega);have h1:=h 1 (by omega);have h2:=h 2 (by omega);have h3:=h 3 (by omega);have b:=h 4 (by omega);have c:=h 5 (by omega)
 simp only[z3S]
 rcases six a with rfl | rfl | rfl | rfl | rfl | rfl <;> omega
theorem z5h{s:St}(n:z0k s=true){v:Nat}(c:v<6)(h:Int){f:Int}(g:0<=f/\f<=1000):ptE (s.V v).tok f=0/\(0<=ptN (s.V v).tok f/\ptN (s.V v).tok f<=(s.V v).tok)/\(0<=slN v h f s.W/\slN v h f s.W<=s.b.wa)/\(s.V v).tok<=s.b.bo/\(0<=(s.V v).lost/\(s.V v).lost<=s.b.bu)/\s.b.bo<=400000/\s.b.wa<=400000/\s.b.bu<=400000/\z2V s.W<=400000/\(∀ x∈s.W,0<=x.amt/\x.amt<=1125899906842624)/\s.W.length<=60:=by
 obtain⟨h1,h2,h3,o,p,d,q,r,t⟩:=(z0h s).1 n;have hb:=(z6a s.b).1 h1;have a:=(z1O _).1 (d v c).1;have i:∀ x∈s.W,0<=x.amt/\x.amt<=1125899906842624:=fun x a=>(z2N p x a).2.2.2.2.1;have hp:=j2i a.1 g;have j:=q7N (v:=v) (h:=h) g i;have l:=q8D (fun k e=>((z1O _).1 (d k e).1).1.1) c;have m:=j3A (fun k e=>((z1O _).1 (d k e).1).2.2.1.1) c;rw[q]at l;rw[r]at j;rw[t]at m;exact⟨hp.1,hp.2,j,l,⟨a.2.2.1.1,m⟩,by omega,by omega,by omega,by omega,i,o⟩
theorem z6Z{s:St}(a:z0k s=true){v:Nat}(c:v<6)(h:Int){f:Int}(d:0<=f/\f<=1000):(z3d s.b (ptN (s.V v).tok f) (slN v h f s.W)).2=0/\(z1Y s v h f).b.good=true/\(z1Y s v h f).b.bo=s.b.bo - ptN (s.V v).tok f/\(z1Y s v h f).b.wa=s.b.wa - slN v h f s.W/\(z1Y s v h f).b.bu=s.b.bu+(ptN (s.V v).tok f+slN v h f s.W):=by
 have hs:=z5h a c h d;exact q9G ((z0h s).1 a).1 ⟨hs.2.1.1,by omega⟩ hs.2.2.1
theorem z6Q{s:St}(b:z0k s=true){v:Nat}(c:v<6)(h:Int){f:Int}(d:0<=f/\f<=1000):z0k (z1Y s v h f)=true:=by
 obtain⟨b0,b1,b2,b3,i⟩:=z6Z b c h d;obtain⟨n1,u,w,x,y,z,A,B,C,j,l⟩:=z5h b c h d;rw[z0h]at b ⊢;obtain⟨h1,h2,h3,m,n,o,p,q,r⟩:=b;have D:=(z6a _).1 b1;refine⟨b1,h2,h3,?_,q0Z d n,fun k t=>?_,?_,?_,?_⟩
 ·show (slW v h f s.W).length<=60
  unfold slW;rw[List.length_map];exact m
 ·obtain⟨i1,e,g⟩:=o k t
  show vOk (z1Q s.V v _ k)=true/\z3G s.S k 4=true/\psh s.S k 4=(z1Q s.V v _ k).sh
  unfold z1Q
  by_cases a:k=v
  ·subst a;rw[if_pos rfl];rw[z1O]at i1;refine⟨?_,e,g⟩;rw[z1O];refine⟨⟨?_,?_⟩,i1.2.1,⟨?_,?_⟩,?_,i1.2.2.2.2⟩ <;> simp only[z7l] <;> first | omega | (intro hp;exact i1.2.2.2.1 (by omega))
  ·rw[if_neg a];exact⟨i1,e,g⟩
 ·show z8C (z1Q s.V v _) 6=_
  rw[z7x _ _ _ c,p,b2];simp only[z7l];omega
 ·show z2V (slW v h f s.W)=_
  rw[j0J,q,b3]
 ·show z3S (z1Q s.V v _) 6=_
  rw[z6d _ _ _ c,r,i];simp only[z7l];omega
end
section
open Go.RowKit
def z5m(s:St)(v:Nat)(j d:Bool):St:={ s with V:=z1Q s.V v { s.V v with jail:=j,dead:=d } }
theorem j5M(s:St)(sl:Value)(v:Nat)(a:v<6)(x:Bool):(stC s sl).setIfInBounds (7+v * 5+3) (J3 x)=stC (z5m s v x (s.V v).dead) sl:=j2d s sl v a x
theorem y1z(s:St)(sl:Value)(v:Nat)(a:v<6)(j d x:Bool):(stC (z5m s v j d) sl).setIfInBounds (7+v * 5+4) (J3 x)=stC (z5m s v j x) sl:=by
 rw[j2b _ sl v a x];unfold z5m;simp only[q1I,z6S]
def q0F(s:St)(v:Int):St×Int:=
 if z6z s v=0 then if (s.V v.toNat).jail=true then (s,14) else (z5m s v.toNat true (s.V v.toNat).dead,0) else (s,z6z s v)
def z1s(s:St)(v:Int):St×Int:=
 if z6z s v=0 then if (s.V v.toNat).dead=true then (s,15) else if (s.V v.toNat).jail=true then (z5m s v.toNat false false,0) else (s,4) else (s,z6z s v)
def z8H(s:St)(v:Int):St×Int:=
 if z6z s v=0 then if (s.V v.toNat).dead=true then (s,15) else (z5m s v.toNat true true,0) else (s,z6z s v)
theorem z3W{s:St}{v:Int}(h:z6z s v=0):z0k s=true/\(0<=v/\v<6):=by
 unfold z6z at h
 repeat' split at h
 all_goals first | (simp_all [z3p];done) | omega
theorem z3Y{s:St}{v:Nat}(a:z0k s=true)(b:v<6):z6z s v=0:=by
 unfold z6z;rw[a,z3p.2 (show (0:Int)<=v/\(v:Int)<6 by omega)]
 rfl
theorem j2V(s:St)(ao:Option Addr)(sb so c:Nat)(v:Int)(w:World)(f:z2L w ao sb so s.W)(r:St×Int)(h0:z6z s v≠0)(g:r=(s,z6z s v)) :
  Calls prog 173 #[J4 (stC s (J1 ao s.W.length c)),J I v] w fun e w'=>e=.returned (.tuple #[J4 (stC r.1 (J1 ao s.W.length c)),J I r.2])/\Bl w w':=by
 have a:=(SAt.new w (stC s (J1 ao s.W.length c))).alloc (J5 Z63 43);have RR:=SAt.new2 w (J5 (stC s (J1 ao s.W.length c)) 43) Z63;have b:Hid (Bl w ((w.alloc (J5 (stC s (J1 ao s.W.length c)) 43)).alloc (J5 Z63 43))):=(znw w _).alloc (by simp) _
 have HW:=J6 f;have HR:=J6 g;clear f g
 go_enter func173,ntmps173
 go_upto_region 1 with fail
 change Code.wp prog _ _ _ ((w.alloc (J5 (stC s (J1 ao s.W.length c)) 43)).alloc (J5 Z63 43));generalize (w.alloc (J5 (stC s (J1 ao s.W.length c)) 43)).alloc (J5 Z63 43)=w0 at *
 go_upto_region 2 with (go_at_call 72;refine (z1S s ao sb so c w.heap.size v _ a (by exact HW.out.over b.out)).mono ?_;rintro e w1⟨rfl,h1⟩)
 have d:=J6 (zbt b.out h1);have i:=a.later h1 a.lt;have h:=RR.later h1 RR.lt;clear a RR h1 b
 go_upto_region 3 with fail
 apply wp_region_lit;refine wpList_load_mid rfl 43 _ rfl _ 0 rfl _ _ i.range underlying43 rfl (by rw[z0B];rfl) ?_
 refine z1U rfl _ rfl ?_;refine wpList_store_mid rfl 43 _ _ rfl _ 0 (stC s (J1 ao s.W.length c)) rfl rfl (h.there 0 _ (by rw[z0v,z0f];omega)) (by rw[z0B];rfl) (z0E _ _ _ _) ?_
 go_wp2;exact z0O results173 h rfl d.out (by omega) s _ _ r HR.out _ rfl rfl rfl
theorem q9T(s:St)(ao:Option Addr)(sb so c v:Nat)(w:World)(k:z2L w ao sb so s.W)(r:St×Int)(n:z0k s=true)(g:v<6)(h1:(s.V v).jail=true->r=(s,14))(h2:(s.V v).jail=false->r=((z5m s v true (s.V v).dead),0)) :
  Calls prog 173 #[J4 (stC s (J1 ao s.W.length c)),J I (v:Int)] w fun e w'=>e=.returned (.tuple #[J4 (stC r.1 (J1 ao s.W.length c)),J I r.2])/\Bl w w':=by
 have f:=(SAt.new w (stC s (J1 ao s.W.length c))).alloc (J5 Z63 43);have RR:=SAt.new2 w (J5 (stC s (J1 ao s.W.length c)) 43) Z63;have h:Hid (Bl w ((w.alloc (J5 (stC s (J1 ao s.W.length c)) 43)).alloc (J5 Z63 43))):=(znw w _).alloc (by simp) _
 have HW:=J6 k;have i:=J6 h1;have j:=J6 h2;have o:=z3Y n g;have q:(v:Int)<6:=by omega
 have t:(0:Int)<=(v:Int):=by omega
 clear k h1 h2
 go_enter func173,ntmps173
 go_upto_region 1 with fail
 change Code.wp prog _ _ _ ((w.alloc (J5 (stC s (J1 ao s.W.length c)) 43)).alloc (J5 Z63 43));generalize (w.alloc (J5 (stC s (J1 ao s.W.length c)) 43)).alloc (J5 Z63 43)=w0 at *
 go_upto_region 2 with (go_at_call 72;refine (z1S s ao sb so c w.heap.size v _ f (by exact HW.out.over h.out)).mono ?_;rintro e w1⟨rfl,h1⟩)
 have a:=J6 (zbt h.out h1);have b:=f.later h1 f.lt;have d:=RR.later h1 RR.lt;clear f RR h1 h;obtain⟨c0,c1,c2,c3,y⟩:=b.val v g;have u:w.heap.size+1<w1.heap.size:=d.lt;clear c0 c1 c2
 go_upto_region 7 with (first | ((fail_if_success (go_not_at_region 6));apply wp_region_lit;refine wpList_load_mid rfl 43 _ rfl _ 0 rfl _ _ b.range underlying43 rfl (by rw[z0B];rfl) ?_;refine wpList_store_mid rfl 43 _ _ rfl _ 0 (stC s (J1 ao s.W.length c)) rfl rfl (d.there 0 _ (by rw[z0v,z0f];omega)) (by rw[z0B];rfl) (z0E _ _ _ _) ?_))
 ·exact z0O results173 d rfl a.out (by omega) s _ _ r (i.out ‹(s.V v).jail=true›) _ rfl rfl rfl
 ·have HR:=J6 (j.out ‹(s.V v).jail=false›);have f0:=b.free (7+v * 5+3);have l:=b.set (7+v * 5+3) (J3 true);rw[j5M _ _ v g]at l;have m:SAt (w1.setCell ⟨w.heap.size,7+v * 5+3,none⟩ (J3 true)) (w.heap.size+1) Z63:=(d.other (by omega) (J3 true):SAt _ _ _)
  have x:=J6 (a.out.setCell (p:=⟨w.heap.size,7+v * 5+3,none⟩) (Nat.le_refl _) (J3 true));clear b d a
  go_upto_region 8 with fail
  generalize (w1.setCell ⟨w.heap.size,7+v * 5+3,none⟩ (J3 true))=w9 at *;apply wp_region_lit;refine wpList_load_mid rfl 43 _ rfl _ 0 rfl _ _ l.range underlying43 rfl (by rw[z0B];rfl) ?_
  refine wpList_store_mid rfl 43 _ _ rfl _ 0 (stC (z5m s v true (s.V v).dead) (J1 ao s.W.length c)) rfl rfl (m.there 0 _ (by rw[z0v,z0f];omega)) (by rw[z0B];rfl) (z0E _ _ _ _) ?_
  go_wp2;exact z0O results173 m rfl x.out (by omega) (z5m s v true (s.V v).dead) (J1 ao s.W.length c) 0 r HR.out _ rfl rfl rfl
theorem q8Z(s:St)(ao:Option Addr)(sb so c:Nat)(v:Int)(w:World)(a:z2L w ao sb so s.W) :
  Calls prog 173 #[J4 (stC s (J1 ao s.W.length c)),J I v] w fun e w'=>e=.returned (.tuple #[J4 (stC (q0F s v).1 (J1 ao s.W.length c)),J I (q0F s v).2])/\Bl w w':=by
 by_cases h:z6z s v=0
 ·obtain⟨b,v0,v1⟩:=z3W h;obtain⟨v,rfl⟩:=Int.eq_ofNat_of_zero_le v0;exact q9T s ao sb so c v w a _ b (by omega) (fun h1=>by rw[q0F,if_pos h];exact if_pos h1) (fun h1=>by rw[q0F,if_pos h];exact if_neg (by simp[h1]))
 ·exact j2V s ao sb so c v w a _ h (by unfold q0F;exact if_neg h)
theorem q6P(s:St)(ao:Option Addr)(sb so c:Nat)(v:Int)(w:World)(f:z2L w ao sb so s.W)(r:St×Int)(h0:z6z s v≠0)(g:r=(s,z6z s v)) :
  Calls prog 56 #[J4 (stC s (J1 ao s.W.length c)),J I v] w fun e w'=>e=.returned (.tuple #[J4 (stC r.1 (J1 ao s.W.length c)),J I r.2])/\Bl w w':=by
 have a:=(SAt.new w (stC s (J1 ao s.W.length c))).alloc (J5 Z63 43);have RR:=SAt.new2 w (J5 (stC s (J1 ao s.W.length c)) 43) Z63;have b:Hid (Bl w ((w.alloc (J5 (stC s (J1 ao s.W.length c)) 43)).alloc (J5 Z63 43))):=(znw w _).alloc (by simp) _
 have HW:=J6 f;have HR:=J6 g;clear f g
 go_enter func56,ntmps56
 go_upto_region 1 with fail
 change Code.wp prog _ _ _ ((w.alloc (J5 (stC s (J1 ao s.W.length c)) 43)).alloc (J5 Z63 43));generalize (w.alloc (J5 (stC s (J1 ao s.W.length c)) 43)).alloc (J5 Z63 43)=w0 at *
 go_upto_region 2 with (go_at_call 72;refine (z1S s ao sb so c w.heap.size v _ a (by exact HW.out.over b.out)).mono ?_;rintro e w1⟨rfl,h1⟩)
 have d:=J6 (zbt b.out h1);have i:=a.later h1 a.lt;have h:=RR.later h1 RR.lt;clear a RR h1 b
 go_upto_region 3 with fail
 apply wp_region_lit;refine wpList_load_mid rfl 43 _ rfl _ 0 rfl _ _ i.range underlying43 rfl (by rw[z0B];rfl) ?_
 refine z1U rfl _ rfl ?_;refine wpList_store_mid rfl 43 _ _ rfl _ 0 (stC s (J1 ao s.W.length c)) rfl rfl (h.there 0 _ (by rw[z0v,z0f];omega)) (by rw[z0B];rfl) (z0E _ _ _ _) ?_
 go_wp2;exact z0O results56 h rfl d.out (by omega) s _ _ r HR.out _ rfl rfl rfl
theorem q2N(s:St)(ao:Option Addr)(sb so c v:Nat)(w:World)(l:z2L w ao sb so s.W)(r:St×Int)(o:z0k s=true)(g:v<6)(h1:(s.V v).dead=true->r=(s,15))(h2:(s.V v).dead=false->(s.V v).jail=false->r=(s,4))(h3:(s.V v).dead=false->(s.V v).jail=true->r=((z5m s v false false),0)) :
  Calls prog 56 #[J4 (stC s (J1 ao s.W.length c)),J I (v:Int)] w fun e w'=>e=.returned (.tuple #[J4 (stC r.1 (J1 ao s.W.length c)),J I r.2])/\Bl w w':=by
 have f:=(SAt.new w (stC s (J1 ao s.W.length c))).alloc (J5 Z63 43);have RR:=SAt.new2 w (J5 (stC s (J1 ao s.W.length c)) 43) Z63;have h:Hid (Bl w ((w.alloc (J5 (stC s (J1 ao s.W.length c)) 43)).alloc (J5 Z63 43))):=(znw w _).alloc (by simp) _
 have HW:=J6 l;have i:=J6 h1;have j:=J6 h2;have k:=J6 h3;have q:=z3Y o g;have t:(v:Int)<6:=by omega
 have u:(0:Int)<=(v:Int):=by omega
 clear l h1 h2 h3
 go_enter func56,ntmps56
 go_upto_region 1 with fail
 change Code.wp prog _ _ _ ((w.alloc (J5 (stC s (J1 ao s.W.length c)) 43)).alloc (J5 Z63 43));generalize (w.alloc (J5 (stC s (J1 ao s.W.length c)) 43)).alloc (J5 Z63 43)=w0 at *
 go_upto_region 2 with (go_at_call 72;refine (z1S s ao sb so c w.heap.size v _ f (by exact HW.out.over h.out)).mono ?_;rintro e w1⟨rfl,h1⟩)
 have a:=J6 (zbt h.out h1);have d:=f.later h1 f.lt;have b:=RR.later h1 RR.lt;clear f RR h1 h;obtain⟨c0,c1,c2,c3,z⟩:=d.val v g;have x:w.heap.size+1<w1.heap.size:=b.lt;clear c0 c1 c2
 go_upto_region 9 with (first | ((fail_if_success (go_not_at_region 6));apply wp_region_lit;refine wpList_load_mid rfl 43 _ rfl _ 0 rfl _ _ d.range underlying43 rfl (by rw[z0B];rfl) ?_;refine wpList_store_mid rfl 43 _ _ rfl _ 0 (stC s (J1 ao s.W.length c)) rfl rfl (b.there 0 _ (by rw[z0v,z0f];omega)) (by rw[z0B];rfl) (z0E _ _ _ _) ?_) | ((fail_if_success (go_not_at_region 8));apply wp_region_lit;refine wpList_load_mid rfl 43 _ rfl _ 0 rfl _ _ d.range underlying43 rfl (by rw[z0B];rfl) ?_;refine wpList_store_mid rfl 43 _ _ rfl _ 0 (stC s (J1 ao s.W.length c)) rfl rfl (b.there 0 _ (by rw[z0v,z0f];omega)) (by rw[z0B];rfl) (z0E _ _ _ _) ?_))
 ·exact z0O results56 b rfl a.out (by omega) s _ _ r (i.out ‹(s.V v).dead=true›) _ rfl rfl rfl
 ·exact z0O results56 b rfl a.out (by omega) s _ _ r (j.out ‹(s.V v).dead=false› (by simpa using ‹(!(s.V v).jail)=true›)) _ rfl rfl rfl
 ·have HR:=J6 (k.out ‹(s.V v).dead=false› (by simpa using ‹(!(s.V v).jail)=false›))
  have f0:=d.free (7+v * 5+3);have m:=d.set (7+v * 5+3) (J3 false);rw[j5M _ _ v g,‹(s.V v).dead=false›]at m;have n:SAt (w1.setCell ⟨w.heap.size,7+v * 5+3,none⟩ (J3 false)) (w.heap.size+1) Z63:=(b.other (by omega) (J3 false):SAt _ _ _)
  have y:=J6 (a.out.setCell (p:=⟨w.heap.size,7+v * 5+3,none⟩) (Nat.le_refl _) (J3 false));clear d b a
  go_upto_region 10 with fail
  generalize (w1.setCell ⟨w.heap.size,7+v * 5+3,none⟩ (J3 false))=w9 at *;apply wp_region_lit;refine wpList_load_mid rfl 43 _ rfl _ 0 rfl _ _ m.range underlying43 rfl (by rw[z0B];rfl) ?_
  refine wpList_store_mid rfl 43 _ _ rfl _ 0 (stC (z5m s v false false) (J1 ao s.W.length c)) rfl rfl (n.there 0 _ (by rw[z0v,z0f];omega)) (by rw[z0B];rfl) (z0E _ _ _ _) ?_
  go_wp2;exact z0O results56 n rfl y.out (by omega) (z5m s v false false) (J1 ao s.W.length c) 0 r HR.out _ rfl rfl rfl
theorem q3s(s:St)(ao:Option Addr)(sb so c:Nat)(v:Int)(w:World)(a:z2L w ao sb so s.W) :
  Calls prog 56 #[J4 (stC s (J1 ao s.W.length c)),J I v] w fun e w'=>e=.returned (.tuple #[J4 (stC (z1s s v).1 (J1 ao s.W.length c)),J I (z1s s v).2])/\Bl w w':=by
 by_cases h:z6z s v=0
 ·obtain⟨b,v0,v1⟩:=z3W h;obtain⟨v,rfl⟩:=Int.eq_ofNat_of_zero_le v0;exact q2N s ao sb so c v w a _ b (by omega) (fun h1=>by rw[z1s,if_pos h];exact if_pos h1) (fun h1 h2=>by rw[z1s,if_pos h,if_neg (by simp[h1])];exact if_neg (by simp[h2])) (fun h1 h2=>by rw[z1s,if_pos h,if_neg (by simp[h1])];exact if_pos h2)
 ·exact q6P s ao sb so c v w a _ h (by unfold z1s;exact if_neg h)
theorem j3L(s:St)(ao:Option Addr)(sb so c:Nat)(v:Int)(w:World)(f:z2L w ao sb so s.W)(r:St×Int)(h0:z6z s v≠0)(g:r=(s,z6z s v)) :
  Calls prog 108 #[J4 (stC s (J1 ao s.W.length c)),J I v] w fun e w'=>e=.returned (.tuple #[J4 (stC r.1 (J1 ao s.W.length c)),J I r.2])/\Bl w w':=by
 have a:=(SAt.new w (stC s (J1 ao s.W.length c))).alloc (J5 Z63 43);have RR:=SAt.new2 w (J5 (stC s (J1 ao s.W.length c)) 43) Z63;have b:Hid (Bl w ((w.alloc (J5 (stC s (J1 ao s.W.length c)) 43)).alloc (J5 Z63 43))):=(znw w _).alloc (by simp) _
 have HW:=J6 f;have HR:=J6 g;clear f g
 go_enter func108,ntmps108
 go_upto_region 1 with fail
 change Code.wp prog _ _ _ ((w.alloc (J5 (stC s (J1 ao s.W.length c)) 43)).alloc (J5 Z63 43));generalize (w.alloc (J5 (stC s (J1 ao s.W.length c)) 43)).alloc (J5 Z63 43)=w0 at *
 go_upto_region 2 with (go_at_call 72;refine (z1S s ao sb so c w.heap.size v _ a (by exact HW.out.over b.out)).mono ?_;rintro e w1⟨rfl,h1⟩)
 have d:=J6 (zbt b.out h1);have i:=a.later h1 a.lt;have h:=RR.later h1 RR.lt;clear a RR h1 b
 go_upto_region 3 with fail
 apply wp_region_lit;refine wpList_load_mid rfl 43 _ rfl _ 0 rfl _ _ i.range underlying43 rfl (by rw[z0B];rfl) ?_
 refine z1U rfl _ rfl ?_;refine wpList_store_mid rfl 43 _ _ rfl _ 0 (stC s (J1 ao s.W.length c)) rfl rfl (h.there 0 _ (by rw[z0v,z0f];omega)) (by rw[z0B];rfl) (z0E _ _ _ _) ?_
 go_wp2;exact z0O results108 h rfl d.out (by omega) s _ _ r HR.out _ rfl rfl rfl
theorem j1s(s:St)(ao:Option Addr)(sb so c v:Nat)(w:World)(k:z2L w ao sb so s.W)(r:St×Int)(o:z0k s=true)(f:v<6)(h1:(s.V v).dead=true->r=(s,15))(h2:(s.V v).dead=false->r=((z5m s v true true),0)) :
  Calls prog 108 #[J4 (stC s (J1 ao s.W.length c)),J I (v:Int)] w fun e w'=>e=.returned (.tuple #[J4 (stC r.1 (J1 ao s.W.length c)),J I r.2])/\Bl w w':=by
 have g:=(SAt.new w (stC s (J1 ao s.W.length c))).alloc (J5 Z63 43);have RR:=SAt.new2 w (J5 (stC s (J1 ao s.W.length c)) 43) Z63;have h:Hid (Bl w ((w.alloc (J5 (stC s (J1 ao s.W.length c)) 43)).alloc (J5 Z63 43))):=(znw w _).alloc (by simp) _
 have HW:=J6 k;have i:=J6 h1;have j:=J6 h2;have q:=z3Y o f;have t:(v:Int)<6:=by omega
 have u:(0:Int)<=(v:Int):=by omega
 clear k h1 h2
 go_enter func108,ntmps108
 go_upto_region 1 with fail
 change Code.wp prog _ _ _ ((w.alloc (J5 (stC s (J1 ao s.W.length c)) 43)).alloc (J5 Z63 43));generalize (w.alloc (J5 (stC s (J1 ao s.W.length c)) 43)).alloc (J5 Z63 43)=w0 at *
 go_upto_region 2 with (go_at_call 72;refine (z1S s ao sb so c w.heap.size v _ g (by exact HW.out.over h.out)).mono ?_;rintro e w1⟨rfl,h1⟩)
 have a:=J6 (zbt h.out h1);have b:=g.later h1 g.lt;have d:=RR.later h1 RR.lt;clear g RR h1 h;obtain⟨c0,c1,c2,c3,z⟩:=b.val v f;have x:w.heap.size+1<w1.heap.size:=d.lt;clear c0 c1 c2
 go_upto_region 7 with (first | ((fail_if_success (go_not_at_region 6));apply wp_region_lit;refine wpList_load_mid rfl 43 _ rfl _ 0 rfl _ _ b.range underlying43 rfl (by rw[z0B];rfl) ?_;refine wpList_store_mid rfl 43 _ _ rfl _ 0 (stC s (J1 ao s.W.length c)) rfl rfl (d.there 0 _ (by rw[z0v,z0f];omega)) (by rw[z0B];rfl) (z0E _ _ _ _) ?_))
 ·exact z0O results108 d rfl a.out (by omega) s _ _ r (i.out ‹(s.V v).dead=true›) _ rfl rfl rfl
 ·have HR:=J6 (j.out ‹(s.V v).dead=false›);have f0:=b.free (7+v * 5+3);have f1:=b.free (7+v * 5+4);have l:=b.set (7+v * 5+3) (J3 true);rw[j5M _ _ v f]at l;have m:=l.set (7+v * 5+4) (J3 true);rw[y1z _ _ v f]at m;have n:SAt ((w1.setCell ⟨w.heap.size,7+v * 5+3,none⟩ (J3 true)).setCell ⟨w.heap.size,7+v * 5+4,none⟩ (J3 true)) (w.heap.size+1) Z63:=((d.other (by omega) (J3 true):SAt _ _ _).other (by omega) (J3 true):SAt _ _ _)
  have y:=J6 ((a.out.setCell (p:=⟨w.heap.size,7+v * 5+3,none⟩) (Nat.le_refl _) (J3 true)).setCell (p:=⟨w.heap.size,7+v * 5+4,none⟩) (Nat.le_refl _) (J3 true));clear b d a
  go_upto_region 8 with fail
  generalize ((w1.setCell ⟨w.heap.size,7+v * 5+3,none⟩ (J3 true)).setCell ⟨w.heap.size,7+v * 5+4,none⟩ (J3 true))=w9 at *;apply wp_region_lit;refine wpList_load_mid rfl 43 _ rfl _ 0 rfl _ _ m.range underlying43 rfl (by rw[z0B];rfl) ?_
  refine wpList_store_mid rfl 43 _ _ rfl _ 0 (stC (z5m s v true true) (J1 ao s.W.length c)) rfl rfl (n.there 0 _ (by rw[z0v,z0f];omega)) (by rw[z0B];rfl) (z0E _ _ _ _) ?_
  go_wp2;exact z0O results108 n rfl y.out (by omega) (z5m s v true true) (J1 ao s.W.length c) 0 r HR.out _ rfl rfl rfl
theorem q7S(s:St)(ao:Option Addr)(sb so c:Nat)(v:Int)(w:World)(a:z2L w ao sb so s.W) :
  Calls prog 108 #[J4 (stC s (J1 ao s.W.length c)),J I v] w fun e w'=>e=.returned (.tuple #[J4 (stC (z8H s v).1 (J1 ao s.W.length c)),J I (z8H s v).2])/\Bl w w':=by
 by_cases h:z6z s v=0
 ·obtain⟨b,v0,v1⟩:=z3W h;obtain⟨v,rfl⟩:=Int.eq_ofNat_of_zero_le v0;exact j1s s ao sb so c v w a _ b (by omega) (fun h1=>by rw[z8H,if_pos h];exact if_pos h1) (fun h1=>by rw[z8H,if_pos h];exact if_neg (by simp[h1]))
 ·exact j3L s ao sb so c v w a _ h (by unfold z8H;exact if_neg h)
theorem q4G(n f:Int)(w:World):Calls prog 149 #[J I n,J I f] w fun e w'=>e=.returned (.tuple #[J I (ptN n f),J I (ptE n f)])/\Bl w w':=Ra.y1g n f w
theorem q9A:∀ (W:List Wt) (k:Nat) (x:Wt) (y:Int),W[k]?=some x->wsL (W.set k { x with amt:=y })=(wsL W).set (k * 8+3) (J I y)
 | [],k,x,y,h=>by simp at h
 | z :: W,0,x,y,h=>by
  simp at h
  subst h;rfl
 | z :: W,k+1,x,y,h=>by
  have a:=q9A W k x y (by simpa using h)
  show wtL z ++ wsL (W.set k _)=(wtL z ++ wsL W).set _ _
  rw[List.set_append_right _ _ (by rw[z2e];omega),z2e,a]
  congr 2
  omega
theorem z2C.amt{B:Nat}{w:World}{g C:Nat}{W:List Wt}(h:z2C B w (some ⟨g,0,none⟩) C W){k:Nat}{x:Wt}(a:W[k]?=some x)(y:Int):z2C B (w.setCell ⟨g,k * 8+3,none⟩ (J I y)) (some ⟨g,0,none⟩) C (W.set k { x with amt:=y }):=by
 have h1:=(World.ownsRow.stored h (k * 8+3) (J I y)).1;unfold z2C;rw[q9A W k x y a,List.length_set];exact h1
theorem z2C.at0{B:Nat}{w:World}{A:Option Addr}{C:Nat}{W:List Wt}(h:z2C B w A C W)(h0:0<W.length):∃ g,A=some ⟨g,0,none⟩/\B<=g/\g<w.heap.size/\∀ k x,W[k]?=some x->(w.cell? ⟨g,k * 8+2,none⟩=some (J I x.v)/\w.cell? ⟨g,k * 8+3,none⟩=some (J I x.amt)/\w.cell? ⟨g,k * 8+4,none⟩=some (J I x.hei)/\w.frozen? ⟨g,k * 8+3,none⟩=false):=by
 have h':=h
 rcases h.2 with⟨hv,hn⟩ | ⟨g,cap,cur,hv,hb,hg,hrest⟩
 ·omega
 ·cases hv;refine⟨g,rfl,hb,(Array.getElem?_eq_some_iff.1 hg).1,fun k x a=>?_⟩
  have c:∀ j v,(wtL x)[j]?=some v->j<8->w.cell? ⟨g,k * 8+j,none⟩=some v:=fun j v b d=>by
   have:=World.ownsRow.cells h' (g:=g) rfl (k * 8+j) v ((z4I W k x j a d).trans b)
   rwa [Addr.add_lit,Nat.zero_add]at this
  exact⟨c 2 _ rfl (by omega),c 3 _ rfl (by omega),c 4 _ rfl (by omega),World.ownsRow.frozenAt h' _⟩
theorem z8N(ao:Option Addr)(W:List Wt)(c sb so:Nat)(v h f:Int)(w:World)(S:z2L w ao sb so W)(T:0<=f/\f<=1000)(E:∀ x∈W,0<=x.amt/\x.amt<=1125899906842624)(hs:z2V W<=400000)(a1:W.length<=60) :
  Calls prog 150 #[J1 ao W.length c,J I v,J I h,J I f] w fun e w'=>∃ A C,e=.returned (.tuple #[J1 A (slW v h f W).length C,J I (slN v h f W),J I 0])/\z2C w.heap.size w' A C (slW v h f W)/\Bl w w':=by
 have F:=z4e ao W c sb so w S;have HL:Hid ((slW v h f W).length=W.length):=by show (slW v h f W).length=W.length;unfold slW;rw[List.length_map]
 have p:Hid (∀ k,0<=slN v h f (W.take k)/\slN v h f (W.take k)<=400000):=fun k=>by
  have h1:=q7N (v:=v) (h:=h) T (W:=W.take k) fun x q=>E x (List.mem_of_mem_take q);have G:z2V W=z2V (W.take k)+z2V (W.drop k):=by rw[<- z3E,List.take_append_drop]
  have U:=z4p (W:=W.drop k) fun y hy=>(E y (List.mem_of_mem_drop hy)).1;omega
 clear S hs
 go_enter func150,ntmps150
 go_upto_region 3 with (go_at_call 38;refine F.mono ?_;rintro e w1⟨A,C,rfl,V,h1⟩;have X:=J6 V;have Y:=J6 h1;clear V h1)
 go_loopw [12,21] (fun al i wl=>∃ (k:Nat),k<=W.length/\i=J I (k:Int)/\al=J I (slN v h f (W.take k))/\Hid (z2C w.heap.size wl A C (slW v h f (W.take k) ++ W.drop k)/\Bl w wl)) (fun _ i _=>W.length - (intOf i).toNat)
 case atStart=>exact⟨0,Nat.zero_le _,rfl,rfl,X.out,Y.out⟩
 case round =>
  obtain⟨k,hk,rfl,rfl,HR⟩:=hrel;clear X Y;obtain⟨n0,n1⟩:=p.out k
  by_cases H:k<W.length
  ·obtain⟨x,q,_⟩:=drop_at H;obtain⟨G,K,n⟩:=j8g v h f q;obtain⟨U,n3⟩:=p.out (k+1);have L:=E x (by obtain⟨h1,h2⟩:=List.getElem?_eq_some_iff.1 q;exact h2 ▸ List.getElem_mem h1)
   obtain⟨g,rfl,M,a2,r⟩:=HR.out.1.at0 (by rw[List.length_append,List.length_drop];omega)
   obtain⟨c2,c3,c4,c5⟩:=r k x K;have l:(slW v h f (W.take k) ++ W.drop k).length=W.length:=by unfold slW;rw[List.length_append,List.length_map,<- List.length_append,List.take_append_drop]
   have d:=J6 K;have b:=J6 G;have s:=HR.out.1.cap;rw[l]at s;clear r F G K q l;generalize slW v h f (W.take k) ++ W.drop k=Wk at *;generalize t:slW v h f (W.take (k+1)) ++ W.drop (k+1)=Wk1 at *;have u:=J6 t;clear t
   by_cases z:x.v=v/\h<=x.hei
   ·have a:q7I v h x=true:=by simp[q7I,z.1,z.2]
    obtain⟨B,D⟩:=j8O (f:=f) a;obtain⟨p0,p1,p2⟩:=j2i L T;rw[B]at b;rw[D]at n;have Z:=q4G x.amt f;rw[p0]at Z;obtain⟨N,a3⟩:=z;rw[N]at c2;generalize ptN x.amt f=pn at *;have a4:wrap64 (x.amt - pn)=x.amt - pn:=z0g (by omega) (by omega)
    rw[n]at U n3;have j:=J6 n;generalize slN v h f (W.take k)=sk at *;have P:wrap64 (sk+pn)=sk+pn:=z0g (by omega) (by omega)
    clear a B D p0 n p
    go_upto_region 10 with (go_at_call 149;refine (Z _).mono ?_;rintro e w2⟨rfl,h2⟩)
    have o:Hid (z2C w.heap.size w2 (some ⟨g,0,none⟩) C Wk/\Bl w w2):=⟨HR.out.1.over h2,zbt HR.out.2 h2⟩;obtain⟨g',Q,_,a0,m⟩:=o.out.1.at0 (by have:=(List.getElem?_eq_some_iff.1 d.out).1;omega)
    cases Q;obtain⟨a5,a6,a7,a8⟩:=m k x d.out;clear m h2 c2 c3 c4 c5 HR;go_wp2;refine⟨⟨k+1,by omega,by go_num,?_,?_⟩,by simp[intOf];omega⟩
    ·first | rw[j.out] | (rw[j.out];exact congrArg _ P)
    ·rw[u.out,b.out];exact⟨o.out.1.amt d.out _,o.out.2.setCell M _⟩
   ·have a:q7I v h x=false:=by
     simp only[q7I,Bool.and_eq_false_iff,decide_eq_false_iff_not]
     by_cases h1:x.v=v
     ·exact .inr (fun h2=>z ⟨h1,h2⟩)
     ·exact .inl h1
    obtain⟨B,D⟩:=z4q (f:=f) a;rw[B]at b;rw[D]at n;have j:=J6 n;have R:Hid (Wk1=Wk):=by show Wk1=Wk;rw[b.out];exact z6u d.out
    clear a B D n p b;go_wp2
    all_goals first
     | (exact⟨⟨k+1,by omega,by go_num,by rw[j.out,Int.add_zero],by rw[u.out,R.out];exact HR.out⟩,by simp[intOf];omega⟩)
     | (exfalso;exact z ⟨by first | assumption | omega,by omega⟩)
  ·obtain rfl:k=W.length:=by omega
   rw[List.take_length,List.drop_length,List.append_nil]at HR;rw[List.take_length];clear F p;go_wp2;refine bodyPost_ret (v:=.tuple #[J1 A W.length C,J I (slN v h f W),J I 0]) (by simp[results,results150]) rfl ⟨A,C,by rw[HL.out],HR.out.1,HR.out.2⟩
theorem y3o(w:World)(a b c d:Int):(Op.equalIn 10000 61 (J4 #[J I a,J I b]) (J4 #[J I c,J I d])).run prog w=.ok (decide (a=c/\b=d)) w:=by
 have e:(prog.info? 3).isSome=true:=by kernel_rfl
 obtain⟨i,e⟩:=Option.isSome_iff_exists.1 e;have hc:prog.cellsOf 3=1:=by kernel_rfl
 rw[run_equalIn_array w 9999 _ _ underlying61 e,hc,show List.range 2=[0,1] from rfl];simp only[Op.eqItems];go_simp
 by_cases h0:a=c <;> by_cases h1:b=d <;> simp[h0,h1]
theorem y3i(w:World)(a b:Int):(binOp .neq 61 (J4 #[J I a,J I b]) (J4 #[J I 0,J I 0])).run prog w=.ok (J3 (!decide (a=0/\b=0))) w:=by
 rw[run_neq_struct,y3o];rfl
theorem q6Q(x:Wt)(w:World):Calls prog 110 #[J4 #[J I x.num,J I x.d,J I x.v,J I x.amt,J I x.hei,J I x.due,J I x.h0,J I x.h1]] w fun e w'=>e=.returned (J3 (!decide (x.h0=0/\x.h1=0)))/\Bl w w':=by
 have a:=fun w=>y3i w x.h0 x.h1
 go_enter func110,ntmps110
 go_wp2;go_ret;refine⟨?_,znw w _⟩
 show Ending.returned (Value.bool (!decide (x.h0=0) || !decide (x.h1=0)))=_
 by_cases h0:x.h0=0 <;> by_cases h1:x.h1=0 <;> simp[h0,h1]
def nuL(l:List Int):List Value:=l.map fun n=>.int .i64 n
def q1e(B:Nat)(w:World)(A:Option Addr)(C:Nat)(l:List Int):Prop:=w.ownsRow B 3 1 (J1 A l.length C) l.length (nuL l)
theorem y0v:(prog.info? 3).map (fun i=>(i.zero,i.size,i.bytes))=some (some (J I 0),1,8):=by kernel_rfl
theorem q1e.over{B:Nat}{w w':World}{A:Option Addr}{C:Nat}{l:List Int}(h:q1e B w A C l)(hb:Bl w w'):q1e B w' A C l:=z1v h fun k a=>hb.block k (World.ownsRow.lt h k a).2
theorem y3k(B:Nat)(w:World)(A:Option Addr)(C y:Nat)(l:List Int)(x:Int)(h:q1e B w A C l)(p:l.length<=60)(q:B<=w.heap.size)(r:w.cell? ⟨y,0,none⟩=some (J I x)) :
  ∃ g C' w',(Builtin.append_ #[45,45] 45 #[J1 A l.length C,J1 (some ⟨y,0,none⟩) 1 1]).run prog w=.ok (J1 (some ⟨g,0,none⟩) (l.length+1) C') w'/\q1e B w' (some ⟨g,0,none⟩) C' (l ++ [x])/\B<=g/\g<w'.heap.size/\Below B w w'/\(∀ k,k<w.heap.size->some k≠(Value.slice A l.length C).ownBlock->g≠k/\w'.heap[k]?=w.heap[k]?):=by
 obtain⟨i0,s,e,f,i⟩:=info_parts y0v;obtain⟨g,cap,w',t,z,b,a,m⟩:=run_append_lies (P:=prog) w 45 45 B 3 i0 _ 1 8 underlying45 s e f i rfl (by omega) (J1 A l.length C) l.length (nuL l) h ⟨y,0,none⟩ 1 1 [J I x] rfl (fun j v n=>by rcases j with _ | j <;> simp at n;subst n;simpa [Addr.add] using r) (by intro u hu;simp at hu;rcases hu with rfl;rfl) (by omega) (by simp only[maxLen];omega) (by omega) q _ rfl
 have c:q1e B w' (some ⟨g,0,none⟩) cap (l ++ [x]):=by
  unfold q1e;rw[List.length_append,nuL,List.map_append];exact z
 refine⟨g,cap,w',t,c,(World.ownsRow.lt c g rfl).1,m,⟨b.os,b.tape,b.output,b.size,fun k o=>b.block k (by omega) (fun D=>?_)⟩,fun k o d=>⟨?_,b.block k o d⟩⟩
 ·have:=(World.ownsRow.lt h k D.symm).1;omega
 ·rcases a with a | a
  ·rintro rfl;exact d a.symm
  ·omega
theorem q2T{ops:Array Oper}{rest:List Oper}{o:Oper}{a:Act}{w:World}{Q:Exit->Act->World->Prop}(f:o.guard=none)(b:o.type=45)(p q:Operand)
  (c:o.op=Op.call { callee:=Callee.builtin Builtin.append,args:=#[p,q],argTypes:=#[45,45] }) (B:Nat) (A:Option Addr) (C y:Nat) (W:List Int) (x:Int) (hs:a.eval p=J1 A W.length C) (i:a.eval q=J1 (some ⟨y,0,none⟩) 1 1)
  (h:q1e B w A C W) (d:W.length<=60) (j:B<=w.heap.size) (l:w.cell? ⟨y,0,none⟩=some (J I x))
  (m:∀ g C' w',q1e B w' (some ⟨g,0,none⟩) C' (W ++ [x])/\B<=g/\g<w'.heap.size/\Below B w w'/\(∀ k,k<w.heap.size->some k≠(Value.slice A W.length C).ownBlock->g≠k/\w'.heap[k]?=w.heap[k]?)->wpList prog ops Q rest (a.put o.dst (J1 (some ⟨g,0,none⟩) (W.length+1) C')) w'):wpList prog ops Q (o :: rest) a w:=by
 refine wpList_plain f fun _ e=>?_;unfold Oper.wp;obtain⟨g,C',w',n,h1⟩:=y3k B w A C y W x h d j l
 simp[execOp,c,resolve,invoke,builtin,hs,i,b,n,Result.andThen]
 exact e _ _ (m _ _ _ h1)
theorem z8V{e:Func}{p q u:Tmp}(h:e.results=#[.cell p 43,.tmp q,.tmp u])(a:Array Value)(w:World)(g:Nat)(cs:Array Value)(v v2:Value)
  (hp:a.getD p undef=J2 (some ⟨g,0,none⟩)) (f:a.getD q undef=v) (hu:a.getD u undef=v2) (i:SAt w g cs) (b:cs.size=63) :
  (results e a).run prog w=.ok (.tuple #[J4 cs,v,v2]) w:=by
 have hp':a[p]?.getD undef=J2 (some ⟨g,0,none⟩):=by simpa using hp
 have c:a[q]?.getD undef=v:=by simpa using f
 have d:a[u]?.getD undef=v2:=by simpa using hu
 simp[results,h,hp',c,d,asAddr,run_loadVar_row w g 43 43 cs (0,0) _ i underlying43 rfl (by rw[z0B,b])]
theorem z9w{f:Func}{p q u:Tmp}(a:f.results=#[.cell p 43,.tmp q,.tmp u]){g:Nat}{wq:World}{d:Array Value}(R:SAt wq g d)(e:d.size=63)(b:St)(sl v v2:Value)(Q:Ending->World->Prop)(h:Q (.returned (.tuple #[J4 (stC b sl),v,v2])) (wq.setCells g 0 (stC b sl).toList))(act:Act)
  (i:act.tmps.getD p undef=J2 (some ⟨g,0,none⟩)) (j:act.tmps.getD q undef=v) (c:act.tmps.getD u undef=v2) (hd:act.defers=[]) :
  bodyPost prog f Q Exit.ret act (wq.setCells g 0 (stC b sl).toList):=by
 have k:=R.z0L (ds:=stC b sl) (by rw[e];rfl)
 exact bodyPost_ret (v:=.tuple #[J4 (stC b sl),v,v2]) (z8V a _ _ g _ _ _ i j c k rfl) hd h
theorem z4u{w:World}{b c e z n:Nat}{v:Value}{d:List Value}(h:w.ownsRow b e z v n d)(hb:c<=b):w.ownsRow c e z v n d:=by
 refine⟨h.1,?_⟩
 rcases h.2 with f | ⟨g,cap,a,i,h2,h3⟩
 ·exact .inl f
 ·exact .inr ⟨g,cap,a,i,Nat.le_trans hb h2,h3⟩
structure q8Y(s:St)(ao:Option Addr)(c:Nat)(t:Int)(B bb:Nat)(w:World)(k:Nat)(A:Option Addr)(C:Nat)(A':Option Addr)(C':Nat)(wl:World):Prop where
 own9:z2C B wl A C (z1x t (s.W.take k))
 own10:q1e B wl A' C' (z2r t (s.W.take k))
 apart:∀ k',(Value.slice A (z1x t (s.W.take k)).length C).ownBlock=some k'->some k'≠(Value.slice A' (z2r t (s.W.take k)).length C').ownBlock
 S:SAt wl w.heap.size (stC s (J1 ao s.W.length c))
 R:SAt wl (w.heap.size+1) Z63
 bank:BAt wl bb (z5o t s.b (s.W.take k)).f0 (z5o t s.b (s.W.take k)).f1 (z5o t s.b (s.W.take k)).f2 (z5o t s.b (s.W.take k)).f3 (z5o t s.b (s.W.take k)).bo (z5o t s.b (s.W.take k)).wa (z5o t s.b (s.W.take k)).bu
 below:Bl w wl
 size:B<=wl.heap.size
theorem q8Y.over{s:St}{ao:Option Addr}{c:Nat}{t:Int}{B bb:Nat}{w:World}{k:Nat}{A:Option Addr}{C:Nat}{A':Option Addr}{C':Nat}{wl w':World}(h:q8Y s ao c t B bb w k A C A' C' wl)(a:w.heap.size<=wl.heap.size)(hb:Bl wl w'):q8Y s ao c t B bb w k A C A' C' w':=
 ⟨h.own9.over hb,h.own10.over hb,h.apart,h.S.later hb h.S.lt,h.R.later hb h.R.lt,h.bank.later hb h.bank.lt,h.below.trans (hb.mono a),Nat.le_trans h.size hb.size⟩
theorem q4R{t:Int}{W:List Wt}{k:Nat}{x:Wt}(a:W[k]?=some x)(hd:z5N t x=false):(z1x t (W.take (k+1))).length=(z1x t (W.take k)).length+1/\(z2r t (W.take (k+1))).length=(z2r t (W.take k)).length:=by
 unfold z2r;rw[z1z a,z6c,z4P,if_neg (by simp[hd]),if_neg (by simp[hd]),List.length_append]
 exact⟨rfl,rfl⟩
theorem j3e{t:Int}{W:List Wt}{k:Nat}{x:Wt}(a:W[k]?=some x)(hd:z5N t x=true):(z1x t (W.take (k+1))).length=(z1x t (W.take k)).length/\(z2r t (W.take (k+1))).length=(z2r t (W.take k)).length+1:=by
 unfold z2r;rw[z1z a,z6c,z4P,if_pos hd,if_pos hd,List.length_map,List.length_map,List.length_append];exact⟨rfl,rfl⟩
theorem q8Y.left{s:St}{ao:Option Addr}{c:Nat}{t:Int}{B bb:Nat}{w:World}{k:Nat}{A:Option Addr}{C:Nat}{A':Option Addr}{C':Nat}{wl w':World}(h:q8Y s ao c t B bb w k A C A' C' wl){x:Wt}(e:s.W[k]?=some x)(hd:z5N t x=false)(f:bb<B)(o:w.heap.size+1<B){g D:Nat}
  (h1:z2C B w' (some ⟨g,0,none⟩) D (z1x t (s.W.take k) ++ [x])) (d:Below B wl w') (l:∀ k',k'<wl.heap.size->some k'≠(Value.slice A (z1x t (s.W.take k)).length C).ownBlock->g≠k'/\w'.heap[k']?=wl.heap[k']?):q8Y s ao c t B bb w (k+1) (some ⟨g,0,none⟩) D A' C' w':=by
 have m:z1x t (s.W.take (k+1))=z1x t (s.W.take k) ++ [x]:=by rw[z1z e,z6c,if_neg (by simp[hd])]
 have j:z2r t (s.W.take (k+1))=z2r t (s.W.take k):=by unfold z2r;rw[z1z e,z4P,if_neg (by simp[hd])]
 have n:z5o t s.b (s.W.take (k+1))=z5o t s.b (s.W.take k):=by rw[z1z e,z7T,if_neg (by simp[hd])]
 have hp:∀ k',(Value.slice A' (z2r t (s.W.take k)).length C').ownBlock=some k'->g≠k'/\w'.heap[k']?=wl.heap[k']?:=fun k' a=>l k' (World.ownsRow.lt h.own10 k' a).2 fun i=>h.apart k' i.symm a.symm;refine⟨by rw[m];exact h1,by rw[j];exact z1v h.own10 fun k' a=>(hp k' a).2,?_,(d.block _ (by omega)).trans h.S,(d.block _ (by omega)).trans h.R,by rw[n];exact (d.block _ f).trans h.bank,h.below.trans (d.mono (by omega)),Nat.le_trans h.size d.size⟩
 rw[j];intro k' a i;cases a;exact (hp g i.symm).1 rfl
theorem q8Y.paid{s:St}{ao:Option Addr}{c:Nat}{t:Int}{B bb:Nat}{w:World}{k:Nat}{A:Option Addr}{C:Nat}{A':Option Addr}{C':Nat}{wl w':World}(l:z2C B wl A C (z1x t (s.W.take k)))(h:∀ k',(Value.slice A (z1x t (s.W.take k)).length C).ownBlock=some k'->some k'≠(Value.slice A' (z2r t (s.W.take k)).length C').ownBlock)(o:SAt wl w.heap.size (stC s (J1 ao s.W.length c)))(p:SAt wl (w.heap.size+1) Z63)(a:BAt wl bb (z5o t s.b (s.W.take (k+1))).f0 (z5o t s.b (s.W.take (k+1))).f1 (z5o t s.b (s.W.take (k+1))).f2 (z5o t s.b (s.W.take (k+1))).f3 (z5o t s.b (s.W.take (k+1))).bo (z5o t s.b (s.W.take (k+1))).wa (z5o t s.b (s.W.take (k+1))).bu)(e:Bl w wl)(i:B<=wl.heap.size)
  {x:Wt} (m:s.W[k]?=some x) (hd:z5N t x=true) (j:bb<B) (v:w.heap.size+1<B) {g D:Nat}
  (h1:q1e B w' (some ⟨g,0,none⟩) D (z2r t (s.W.take k) ++ [x.num])) (f:Below B wl w') (q:∀ k',k'<wl.heap.size->some k'≠(Value.slice A' (z2r t (s.W.take k)).length C').ownBlock->g≠k'/\w'.heap[k']?=wl.heap[k']?):q8Y s ao c t B bb w (k+1) A C (some ⟨g,0,none⟩) D w':=by
 have n:z1x t (s.W.take (k+1))=z1x t (s.W.take k):=by rw[z1z m,z6c,if_pos hd]
 have r:z2r t (s.W.take (k+1))=z2r t (s.W.take k) ++ [x.num]:=by unfold z2r;rw[z1z m,z4P,if_pos hd,List.map_append];rfl
 have hp:∀ k',(Value.slice A (z1x t (s.W.take k)).length C).ownBlock=some k'->g≠k'/\w'.heap[k']?=wl.heap[k']?:=fun k' d=>q k' (World.ownsRow.lt l k' d).2 (h k' d);refine⟨by rw[n];exact z1v l fun k' d=>(hp k' d).2,by rw[r];exact h1,?_,(f.block _ (by omega)).trans o,(f.block _ (by omega)).trans p,(f.block _ j).trans a,e.trans (f.mono (by omega)),Nat.le_trans i f.size⟩
 rw[n];intro k' d u;cases u;exact (hp g d).1 rfl
theorem j3D(s:St)(ao:Option Addr)(sb so c:Nat)(t:Int)(w:World)(hW:z2L w ao sb so s.W)(hg:z0k s=true) :
  Calls prog 78 #[J4 (stC s (J1 ao s.W.length c)),.int .i64 t] w fun e w'=>∃ A C A' C',e=.returned (.tuple #[J4 (stC (z5K s t) (J1 A (z5K s t).W.length C)),J1 A' (z2r t s.W).length C',.int .i64 0])/\z2C w.heap.size w' A C (z5K s t).W/\q1e w.heap.size w' A' C' (z2r t s.W)/\Bl w w':=by
 have SS:=(SAt.new w (stC s (J1 ao s.W.length c))).alloc (J5 Z63 43);have RR:=SAt.new2 w (J5 (stC s (J1 ao s.W.length c)) 43) Z63;have HB:Hid (Bl w ((w.alloc (J5 (stC s (J1 ao s.W.length c)) 43)).alloc (J5 Z63 43))):=(znw w _).alloc (by simp) _
 have HW:=J6 hW;have hG:=fun w h=>z8b s ao sb so c w h;have e1:s.W.length<=60:=((z0h s).1 hg).2.2.2.1;have a1:=fun k x hx hd w=>(j2E hg t (k:=k) (x:=x) hx hd) ▸ j7g (z5o t s.b (s.W.take k)) x.d x.amt w;rw[hg]at hG;clear hW
 go_enter func78,ntmps78
 go_upto_region 1 with fail
 change Code.wp prog _ _ _ ((w.alloc (J5 (stC s (J1 ao s.W.length c)) 43)).alloc (J5 Z63 43));generalize (w.alloc (J5 (stC s (J1 ao s.W.length c)) 43)).alloc (J5 Z63 43)=w0 at *;apply wp_region_lit;refine wpList_load_mid rfl 43 _ rfl _ 0 rfl _ _ SS.range underlying43 rfl (by rw[z0B];rfl) ?_
 go_upto_region 3 with (go_at_call 94;refine (hG _ (by exact HW.out.over HB.out)).mono ?_;rintro e w1⟨rfl,h1⟩)
 have a4:=J6 (zbt HB.out h1);have S1:=SS.later h1 SS.lt;have R1:=RR.later h1 RR.lt;have e7:w.heap.size+1<w1.heap.size:=R1.lt;have e2:w.heap.size<w1.heap.size:=by omega
 clear SS RR h1 HB hG;obtain⟨x0,x1,x2,x3,x4,x5,x6,_,_⟩:=z0u S1
 go_upto_region 4 with fail
 have B2:BAt (w1.alloc (J5 #[.int .i64 s.b.f0,.int .i64 s.b.f1,.int .i64 s.b.f2,.int .i64 s.b.f3,.int .i64 s.b.bo,.int .i64 s.b.wa,.int .i64 s.b.bu] 35)) w1.heap.size s.b.f0 s.b.f1 s.b.f2 s.b.f3 s.b.bo s.b.wa s.b.bu:=heap_alloc_new _ _;have S2:=S1.alloc (J5 #[.int .i64 s.b.f0,.int .i64 s.b.f1,.int .i64 s.b.f2,.int .i64 s.b.f3,.int .i64 s.b.bo,.int .i64 s.b.wa,.int .i64 s.b.bu] 35);have R2:=R1.alloc (J5 #[.int .i64 s.b.f0,.int .i64 s.b.f1,.int .i64 s.b.f2,.int .i64 s.b.f3,.int .i64 s.b.bo,.int .i64 s.b.wa,.int .i64 s.b.bu] 35);have a5:=J6 (a4.out.alloc (by omega) (J5 #[.int .i64 s.b.f0,.int .i64 s.b.f1,.int .i64 s.b.f2,.int .i64 s.b.f3,.int .i64 s.b.bo,.int .i64 s.b.wa,.int .i64 s.b.bu] 35))
 generalize w1.alloc (J5 #[.int .i64 s.b.f0,.int .i64 s.b.f1,.int .i64 s.b.f2,.int .i64 s.b.f3,.int .i64 s.b.bo,.int .i64 s.b.wa,.int .i64 s.b.bu] 35)=w2 at *;clear S1 R1 a4 x0 x1 x2 x3 x4 x5 x6;have e8:w1.heap.size<w2.heap.size:=B2.lt;have e3:w.heap.size<w2.heap.size:=by omega
 have x7:=(z0u S2).2.2.2.2.2.2.2.1;have a6:Hid (q8Y s ao c t w2.heap.size w1.heap.size w 0 none 0 none 0 w2):=⟨⟨rfl,.inl ⟨rfl,rfl⟩⟩,⟨rfl,.inl ⟨rfl,rfl⟩⟩,fun k' h=>(by cases h),S2,R2,B2,a5.out,Nat.le_refl _⟩
 clear S2 R2 B2 a5;have H:=HW.out.adr
 go_upto_region 7 with fail
 go_loopw [9,10,22] (fun l9 d4 i wl=>∃ (k:Nat) (A:Option Addr) (C:Nat) (A':Option Addr) (C':Nat),k<=s.W.length/\i=.int .i64 (k:Int)/\l9=J1 A (z1x t (s.W.take k)).length C/\d4=J1 A' (z2r t (s.W.take k)).length C'/\Hid (q8Y s ao c t w2.heap.size w1.heap.size w k A C A' C' wl)) (fun _ _ i _=>s.W.length - (intOf i).toNat)
 case atStart=>exact⟨0,none,0,none,0,Nat.zero_le _,rfl,rfl,rfl,a6⟩
 case round =>
  obtain⟨k,A,C,A',C',G,rfl,rfl,rfl,z⟩:=hrel;have e9:=z.out.size;clear a6 x7
  by_cases d5:k<s.W.length
  ·obtain⟨x,hx,_⟩:=drop_at d5;obtain⟨c0,c1,c2,c3,K,L,M,N⟩:=(HW.out.over z.out.below).cell k x hx;obtain rfl:=H (by omega)
   have h9:(z1x t (s.W.take k)).length<=60:=Nat.le_trans (List.length_filter_le _ _) (by rw[List.length_take];omega)
   have f7:(z2r t (s.W.take k)).length<=60:=by unfold z2r;rw[List.length_map];exact Nat.le_trans (List.length_filter_le _ _) (by rw[List.length_take];omega)
   have hH:=q6Q x;have X:=a1 k x hx;have HX:=J6 hx;clear H a1 hx;have Y:YAt (wr.alloc (J5 #[.int .i64 x.num,.int .i64 x.d,.int .i64 x.v,.int .i64 x.amt,.int .i64 x.hei,.int .i64 x.due,.int .i64 x.h0,.int .i64 x.h1] 63)) wr.heap.size x:=heap_alloc_new _ _;have P:=J6 (z.out.over (by omega) (znw wr (J5 #[.int .i64 x.num,.int .i64 x.d,.int .i64 x.v,.int .i64 x.amt,.int .i64 x.hei,.int .i64 x.due,.int .i64 x.h0,.int .i64 x.h1] 63)))
   have f8:wr.heap.size<(wr.alloc (J5 #[.int .i64 x.num,.int .i64 x.d,.int .i64 x.v,.int .i64 x.amt,.int .i64 x.hei,.int .i64 x.due,.int .i64 x.h0,.int .i64 x.h1] 63)).heap.size:=Y.lt
   by_cases a2:x.due<=t
   ·by_cases B:x.h0=0/\x.h1=0
    ·have HD:Hid (z5N t x=true):=by show z5N t x=true;simp[z5N,a2,B]
     have a7:=X HD.out;rw[decide_eq_true B]at hH;clear X B
     go_upto_region 9 with fail
     generalize wr.alloc (J5 #[.int .i64 x.num,.int .i64 x.d,.int .i64 x.v,.int .i64 x.amt,.int .i64 x.hei,.int .i64 x.due,.int .i64 x.h0,.int .i64 x.h1] 63)=wq at *;clear c0 c1 c2 c3 K L M N z;obtain⟨c0,c1,c2,c3,K,L,M,N⟩:=Y.cells;have a8:=P.out.size;generalize a9:z5o t s.b (s.W.take k)=bk0 at *;generalize b7:z5o t s.b (s.W.take (k+1))=bk1 at *
     go_upto_region 12 with (first
      | (go_at_call 110;refine (hH _).mono ?_;rintro e w5⟨rfl,h5⟩;have Z:=J6 (P.out.over (by omega) h5);have Y5:=Y.later h5 Y.lt;clear c0 c1 c2 c3 K L M N;obtain⟨c0,c1,c2,c3,K,L,M,N⟩:=Y5.cells;have B5:=Z.out.bank;rw[a9]at B5;obtain⟨b0,b1,b2,b3,b4,b5,b6⟩:=B5.cells;have d6:=Y5.lt;have e4:=B5.lt;clear h5 B5)
      | (go_at_call 111;refine (a7 _).mono ?_;rintro e w6⟨rfl,h6⟩;have n:=J6 (Z.out.over (by omega) h6);have Y6:=Y5.later h6 Y5.lt;have B6:=n.out.bank;clear b0 b1 b2 b3 b4 b5 b6;obtain⟨b0,b1,b2,b3,b4,b5,b6⟩:=B6.cells;obtain⟨f0,f1,f2,f3,f4,f5,f6⟩:=B6.frees;have f9:=Y6.lt;have e5:=B6.lt;clear h6))
     change Code.wp prog _ _ _ (z6H w6 w1.heap.size bk1);have a:But w1.heap.size w6 (z6H w6 w1.heap.size bk1):=(((((((But.refl _ _).set 0 _).set 1 _).set 2 _).set 3 _).set 4 _).set 5 _).set 6 _;have B7:BAt (z6H w6 w1.heap.size bk1) w1.heap.size bk1.f0 bk1.f1 bk1.f2 bk1.f3 bk1.bo bk1.wa bk1.bu:=BAt.z7i B6 _ _ _ _ _ _ _;have S7:=a.z1q (by omega) n.out.S
     have R7:=a.z1q (by omega) n.out.R
     have Y7:YAt (z6H w6 w1.heap.size bk1) wr.heap.size x:=(a.block _ (by omega)).trans Y6
     have E:Hid (z2C w2.heap.size (z6H w6 w1.heap.size bk1) A C (z1x t (s.W.take k))):=z1v n.out.own9 fun k' G=>a.block _ (by have:=(World.ownsRow.lt n.out.own9 k' G).1;omega)
     have o:Hid (q1e w2.heap.size (z6H w6 w1.heap.size bk1) A' C' (z2r t (s.W.take k))):=z1v n.out.own10 fun k' G=>a.block _ (by have:=(World.ownsRow.lt n.out.own10 k' G).1;omega)
     have d7:=J6 (n.out.below.trans (a.below (by omega)))
     have d8:=J6 n.out.apart;clear c0 c1 c2 c3 K L M N b0 b1 b2 b3 b4 b5 b6 f0 f1 f2 f3 f4 f5 f6 a n Y6 B6 a9;generalize z6H w6 w1.heap.size bk1=w7 at *;have c0:=Y7.cells.1;have g0:=Y7.lt;have b8:w2.heap.size<=w7.heap.size:=by omega
     have b9:=J6 S7;have c8:=J6 R7;have Q:=J6 B7;rw[<- b7]at Q;clear S7 R7 B7 b7
     go_wp2_with (at_builtin;refine q2T rfl rfl _ _ rfl w2.heap.size A' C' w7.heap.size (z2r t (s.W.take k)) x.num rfl rfl (by exact o.out.over (znw w7 _)) (by omega) (by simp;omega) (by rw[World.cell?_alloc_at _ _ _ _ rfl];rfl) ?_;rintro g D c9⟨f,d0,d1,l,m⟩;have p:=J6 f;have q:=J6 l;have r:=J6 m;clear f l m)
     have F:=(Below.refl w7.heap.size w7).alloc (Nat.le_refl _) (J5 #[.int .i64 x.num] 3);have T:=J6 (q8Y.paid (E.out.over F) d8.out (b9.out.later F b9.out.lt) (c8.out.later F c8.out.lt) (Q.out.later F Q.out.lt) (d7.out.trans (F.mono (by omega))) (Nat.le_trans b8 F.size) HX.out HD.out (by omega) (by omega) p.out q.out r.out)
     have y:=j3e HX.out HD.out;exact⟨⟨k+1,A,C,some ⟨g,0,none⟩,D,by omega,by go_num,by rw[y.1],by rw[y.2],T⟩,by simp[intOf];omega⟩
    ·have HD:Hid (z5N t x=false):=by show z5N t x=false;simp[z5N,a2,B]
     rw[decide_eq_false B]at hH
     go_upto_region 9 with fail
     generalize wr.alloc (J5 #[.int .i64 x.num,.int .i64 x.d,.int .i64 x.v,.int .i64 x.amt,.int .i64 x.hei,.int .i64 x.due,.int .i64 x.h0,.int .i64 x.h1] 63)=wp at *;clear c0 c1 c2 c3 K L M N z X B;obtain⟨c0,c1,c2,c3,K,L,M,N⟩:=Y.cells;have a8:=P.out.size
     go_upto_region 10 with (go_at_call 110;refine (hH _).mono ?_;rintro e wq⟨rfl,h5⟩;have Z:=J6 (P.out.over (by omega) h5);have Y5:=Y.later h5 Y.lt;clear h5)
     clear c0 c1 c2 c3 K L M N P Y;obtain⟨c0,c1,c2,c3,K,L,M,N⟩:=Y5.cells;have P:=J6 Z.out;have d6:=Y5.lt
     go_wp2_with (at_builtin;refine z9r rfl rfl _ _ rfl w2.heap.size A C wq.heap.size (z1x t (s.W.take k)) x rfl rfl (by exact P.out.own9.over (znw wq _)) (by omega) (by simp;omega) (by exact fun j u hj=>q7o wq x _ j u hj) ?_;rintro g D c9⟨f,d0,d1,l,m⟩;have p:=J6 f;have q:=J6 l;have r:=J6 m;clear f l m)
     have T:=J6 ((P.out.over (by omega) (znw wq (J5 #[.int .i64 x.num,.int .i64 x.d,.int .i64 x.v,.int .i64 x.amt,.int .i64 x.hei,.int .i64 x.due,.int .i64 x.h0,.int .i64 x.h1] 63))).left HX.out HD.out (by omega) (by omega) p.out q.out r.out)
     have y:=q4R HX.out HD.out;exact⟨⟨k+1,some ⟨g,0,none⟩,D,A',C',by omega,by go_num,by rw[y.1],by rw[y.2],T⟩,by simp[intOf];omega⟩
   ·have HD:Hid (z5N t x=false):=by show z5N t x=false;simp[z5N,a2]
    go_upto_region 9 with fail
    generalize wr.alloc (J5 #[.int .i64 x.num,.int .i64 x.d,.int .i64 x.v,.int .i64 x.amt,.int .i64 x.hei,.int .i64 x.due,.int .i64 x.h0,.int .i64 x.h1] 63)=wq at *;clear c0 c1 c2 c3 K L M N z X hH;obtain⟨c0,c1,c2,c3,K,L,M,N⟩:=Y.cells;have a8:=P.out.size
    go_wp2_with (at_builtin;refine z9r rfl rfl _ _ rfl w2.heap.size A C wq.heap.size (z1x t (s.W.take k)) x rfl rfl (by exact P.out.own9.over (znw wq _)) (by omega) (by simp;omega) (by exact fun j u hj=>q7o wq x _ j u hj) ?_;rintro g D c9⟨f,d0,d1,l,m⟩;have p:=J6 f;have q:=J6 l;have r:=J6 m;clear f l m)
    have T:=J6 ((P.out.over (by omega) (znw wq (J5 #[.int .i64 x.num,.int .i64 x.d,.int .i64 x.v,.int .i64 x.amt,.int .i64 x.hei,.int .i64 x.due,.int .i64 x.h0,.int .i64 x.h1] 63))).left HX.out HD.out (by omega) (by omega) p.out q.out r.out)
    have y:=q4R HX.out HD.out;exact⟨⟨k+1,some ⟨g,0,none⟩,D,A',C',by omega,by go_num,by rw[y.1],by rw[y.2],T⟩,by simp[intOf];omega⟩
  ·obtain rfl:k=s.W.length:=by omega
   clear a1 H;rw[List.take_length];have U:=J6 z.out.S;have HR:=J6 z.out.R;have a3:=J6 z.out.bank;have E:=J6 z.out.own9;have o:=J6 z.out.own10;have d2:=J6 z.out.below;clear z;rw[List.take_length]at a3 E o;obtain⟨x0,x1,x2,x3,x4,x5,x6,x7,_⟩:=z0u U.out;obtain⟨b0,b1,b2,b3,b4,b5,b6⟩:=a3.out.cells;have f0:=U.out.free 0;have f1:=U.out.free 1;have f2:=U.out.free 2;have f3:=U.out.free 3;have f4:=U.out.free 4;have f5:=U.out.free 5;have f6:=U.out.free 6;have d9:=U.out.free 61;have g1:w1.heap.size≠w.heap.size:=by omega
   have g2:w.heap.size<wr.heap.size:=by omega
   have e6:w1.heap.size<wr.heap.size:=by omega
   generalize d3:z5o t s.b s.W=bk at *
   go_upto_region 17 with fail
   change Code.wp prog _ _ _ ((z6H wr w.heap.size bk).setCell ⟨w.heap.size,61,none⟩ (J1 A (z1x t s.W).length C));have a:But w.heap.size wr ((z6H wr w.heap.size bk).setCell ⟨w.heap.size,61,none⟩ (J1 A (z1x t s.W).length C)):=((((((((But.refl _ _).set 0 _).set 1 _).set 2 _).set 3 _).set 4 _).set 5 _).set 6 _).set 61 _;have S8:=(z7w U.out bk).set 61 (J1 A (z1x t s.W).length C);rw[q2p]at S8;have R8:=a.z1q (by omega) HR.out
   have a0:Hid (z2C w2.heap.size ((z6H wr w.heap.size bk).setCell ⟨w.heap.size,61,none⟩ (J1 A (z1x t s.W).length C)) A C (z1x t s.W)):=z1v E.out fun k' G=>a.block _ (by have:=(World.ownsRow.lt E.out k' G).1;omega)
   have V:Hid (q1e w2.heap.size ((z6H wr w.heap.size bk).setCell ⟨w.heap.size,61,none⟩ (J1 A (z1x t s.W).length C)) A' C' (z2r t s.W)):=z1v o.out fun k' G=>a.block _ (by have:=(World.ownsRow.lt o.out k' G).1;omega)
   have e0:=J6 (d2.out.trans (a.below (Nat.le_refl _)));generalize (z6H wr w.heap.size bk).setCell ⟨w.heap.size,61,none⟩ (J1 A (z1x t s.W).length C)=w8 at *;clear x0 x1 x2 x3 x4 x5 x6 x7 b0 b1 b2 b3 b4 b5 b6 f0 f1 f2 f3 f4 f5 f6 d9 a U HR a3 E o d2
   have S9:SAt w8 w.heap.size (stC (z5K s t) (J1 A (z1x t s.W).length C)):=by
    have e:stC (z5K s t) (J1 A (z1x t s.W).length C)=stC { s with b:=bk } (J1 A (z1x t s.W).length C):=by rw[<- d3];rfl
    rw[e];exact S8
   clear S8 d3;apply wp_region_lit;refine wpList_load_mid rfl 43 _ rfl _ 0 rfl _ _ S9.range underlying43 rfl (by rw[z0B];rfl) ?_
   refine z1U rfl _ rfl ?_;refine wpList_store_mid rfl 43 _ _ rfl _ 0 (stC (z5K s t) (J1 A (z1x t s.W).length C)) rfl rfl (R8.there 0 _ (by rw[z0v,z0f];omega)) (by rw[z0B];rfl) (z0E _ _ _ _) ?_
   go_wp2;exact z9w results78 R8 rfl (z5K s t) _ _ _ _ ⟨A,C,A',C',rfl,z4u (z1v a0.out fun k' G=>z1l (by have:=(World.ownsRow.lt a0.out k' G).1;omega) _ _ _) (by omega),z4u (z1v V.out fun k' G=>z1l (by have:=(World.ownsRow.lt V.out k' G).1;omega) _ _ _) (by omega),z0b (by omega) _ _ _ e0.out⟩ _ rfl rfl rfl rfl
def y1h:St:=⟨⟨100000,100000,100000,100000,0,0,0⟩,fun _=>⟨0,0,0,false,false⟩,fun _ _=>0,[],1⟩
theorem z8L{c:Func}{p:Tmp}(h:c.results=#[.cell p 43])(a:Array Value)(w:World)(g:Nat)(cs:Array Value)
  (hp:a.getD p undef=J2 (some ⟨g,0,none⟩)) (d:SAt w g cs) (b:cs.size=63) :
  (results c a).run prog w=.ok (J4 cs) w:=
 results_cell_row h _ _ g 43 cs (0,0) _ hp d underlying43 rfl (by rw[z0B,b])
theorem z4S(w:World):Calls prog 30 #[] w fun e w'=>e=.returned (J4 (stC y1h (J1 none 0 0)))/\Bl w w':=by
 have R0:=SAt.new w Z63;have a:Hid (Bl w (w.alloc (J5 Z63 43))):=znw w _;have c:=j6h
 go_enter func30,ntmps30
 go_upto_region 1 with fail
 change Code.wp prog _ _ _ (w.alloc (J5 Z63 43));generalize w.alloc (J5 Z63 43)=w0 at *;apply wp_region_lit
 go_step
 go_step
 refine (c _).mono ?_;rintro e w1⟨rfl,h1⟩;have d:=R0.later h1 R0.lt;have b:=J6 (zbt a.out h1);clear h1 R0 a c;dsimp only
 go_step
 go_step
 go_step
 go_step
 refine wpList_store_mid rfl 43 _ _ rfl _ 0 (stC y1h (J1 none 0 0)) rfl rfl (d.there 0 _ (by rw[z0v,z0f];omega)) (by rw[z0B];rfl) (z0E _ _ _ _) ?_
 go_wp2;have f:=d.z0L (ds:=stC y1h (J1 none 0 0)) (by rw[z0f];rfl)
 exact bodyPost_ret (v:=J4 (stC y1h (J1 none 0 0))) (z8L results30 _ _ _ _ rfl f rfl) rfl ⟨rfl,z0b (Nat.le_refl _) _ _ _ b.out⟩
end
end Go.Proofs.YtddlhnoedldidaaGreat
