/- Parts of the proof. -/
import Derived.Test.YtjghbciepinofaaGreatPL
import Derived.Test.YtjghbciepinofaaGreatPK1
import Derived.Test.YtjghbciepinofaaGreatPK16
import Derived.Deep.MidRow
import Derived.Deep.DeepCutAuto
import Derived.OneCell
import Derived.OwnWalk
import Derived.Deep.OwnRows
import Derived.WideShapes
import Derived.ChangeKeysEq
import Derived.Deep.RegionHeld3
import Derived.Deep.RegionWith
import Derived.OpenShut
import Derived.Deep.Slices
import Derived.SizedLaws
import Derived.Laws.IdiomArrays
set_option maxRecDepth 100000
set_option maxHeartbeats 16000000
namespace Go.Proofs.YtjghbciepinofaaGreat
open Go.Proofs.Tryz
open Value renaming int->J,slice->J1,pointer->J2,bool->J3,agg->J4
open IntKind renaming i64->I
open Obj renaming cells->J5
section
open Go.RowKit
def spl(cs:Array Value):Nat->List Value->Array Value
 | _,[]=>cs
 | o,v :: r=>spl (cs.setIfInBounds o v) (o+1) r
theorem z9l:∀ (a:List Value) (cs:Array Value) (o i:Nat),o+a.length<=cs.size->(spl cs o a)[i]?=if o<=i/\i<o+a.length then a[i - o]? else cs[i]?
 | [],cs,o,i,_=>by simp[spl];intro h1 h2;omega
 | v :: r,cs,o,i,h=>by
  simp only[List.length_cons]at h;rw[spl,z9l r _ (o+1) i (by simp;omega)]
  by_cases e:i=o
  ·subst e;have:i<cs.size:=by omega
   simp[this]
   intro h1;omega
  ·by_cases h1:o+1<=i/\i<o+1+r.length
   ·rw[if_pos h1,if_pos ⟨by omega,by simp;omega⟩]
    obtain⟨j,rfl⟩:∃ j,i=o+1+j:=⟨i - (o+1),by omega⟩
    rw[show o+1+j - (o+1)=j by omega,show o+1+j - o=j+1 by omega]
    simp
   ·rw[if_neg h1,if_neg (by simp;omega),Array.getElem?_setIfInBounds_ne (by omega)]
theorem q2t{cs ds:Array Value}(h:ds.size=cs.size):spl cs 0 ds.toList=ds:=by
 apply Array.ext_getElem?;intro i;rw[z9l _ _ _ _ (by simp;omega)]
 by_cases a:i<ds.size
 ·rw[if_pos ⟨by omega,by simp;omega⟩];simp
 ·rw[if_neg (by simp;omega),Array.getElem?_eq_none (by omega),Array.getElem?_eq_none (by omega)]
theorem z0b{B b:Nat}{a:World}(c:B<=b):∀ (d:List Value) (o:Nat) (w:World),Below B a w->Below B a (w.setCells b o d)
 | [],_,_,h=>h
 | v :: r,o,_,h=>z0b c r (o+1) _ (h.setCell c v)
theorem z0f{b k:Nat}(a:k≠b):∀ (c:List Value) (o:Nat) (w:World),(w.setCells b o c).heap[k]?=w.heap[k]?
 | [],_,_=>rfl
 | _ :: r,o,_=>(z0f a r (o+1) _).trans (Below.heap_setCell _ _ _ _ a)
theorem q2s{cs:Array Value}{i:Nat}{v:Value}(h:cs.all (·.oneCell')=true)(a:v.oneCell'=true):(cs.setIfInBounds i v).all (·.oneCell')=true:=by
 rw[Array.all_eq_true_iff_forall_mem]at *;intro x b
 rcases Array.mem_or_eq_of_mem_setIfInBounds b with c | rfl
 ·exact h x c
 ·exact a
end
namespace Pv
open Go.RowKit
theorem J6{p:Prop}(h:p):Hid p:=h
def CAt(ty:TypeId)(w:World)(b:Nat)(cs:Array Value):Prop:=w.heap[b]?=some (J5 cs ty)
section
variable {ty:TypeId} {w w':World} {b B:Nat} {cs:Array Value}
theorem CAt.new(ty:TypeId)(w:World)(cs:Array Value):CAt ty (w.alloc (J5 cs ty)) w.heap.size cs:=heap_alloc_new _ _
theorem CAt.new2(ty:TypeId)(w:World)(o:Obj)(cs:Array Value):CAt ty ((w.alloc o).alloc (J5 cs ty)) (w.heap.size+1) cs:=by
 have h:=CAt.new ty (w.alloc o) cs
 rwa [show (w.alloc o).heap.size=w.heap.size+1 by simp]at h
theorem CAt.later(h:CAt ty w b cs)(a:Below B w w')(c:b<B):CAt ty w' b cs:=(a.block b c).trans h
theorem CAt.lt(h:CAt ty w b cs):b<w.heap.size:=(Array.getElem?_eq_some_iff.1 h).1
theorem CAt.over(h:CAt ty w b cs)(a:Bl w w'):CAt ty w' b cs:=h.later a h.lt
theorem CAt.alloc(h:CAt ty w b cs)(o:Obj):CAt ty (w.alloc o) b cs:=(Below.heap_alloc _ _ _ h.lt).trans h
theorem CAt.keep(h:CAt ty w b cs)(a:w'.heap[b]?=w.heap[b]?):CAt ty w' b cs:=a.trans h
theorem CAt.other{c o:Nat}(h:CAt ty w b cs)(a:b≠c)(v:Value):CAt ty (w.setCell ⟨c,o,none⟩ v) b cs:=(Below.heap_setCell _ _ _ _ a).trans h
theorem CAt.others{c o:Nat}(h:CAt ty w b cs)(a:b≠c)(d:List Value):CAt ty (w.setCells c o d) b cs:=(z0f a _ _ _).trans h
theorem CAt.cell(h:CAt ty w b cs)(o:Nat):w.cell? ⟨b,o,none⟩=cs[o]?:=by
 unfold CAt at h
 simp[World.cell?,h]
theorem CAt.free(h:CAt ty w b cs)(o:Nat):w.frozen? ⟨b,o,none⟩=false:=by
 unfold CAt at h
 simp[World.frozen?,h]
theorem CAt.set(h:CAt ty w b cs)(o:Nat)(v:Value):CAt ty (w.setCell ⟨b,o,none⟩ v) b (cs.setIfInBounds o v):=by
 unfold CAt at *
 simp[World.setCell,Array.getElem?_modify,h]
theorem CAt.range(h:CAt ty w b cs):w.rangeAt b 0 cs.toList:=by
 intro j v a;rw[Nat.zero_add,h.cell]
 simpa using a
theorem CAt.part(h:CAt ty w b cs){o:Nat}{ds:List Value}(hd:∀ j v,ds[j]?=some v->cs[o+j]?=some v):w.rangeAt b o ds:=by
 intro j v a;rw[h.cell];exact hd j v a
theorem CAt.there(h:CAt ty w b cs)(o n:Nat)(a:o+n<=cs.size):w.there b o n:=by
 intro j c;rw[h.cell,h.free];have:o+j<cs.size:=by omega
 simp[this]
theorem CAt.sets:∀ (a:List Value) (o:Nat) (w:World) (cs:Array Value),CAt ty w b cs->CAt ty (w.setCells b o a) b (spl cs o a)
 | [],_,_,_,h=>h
 | v :: r,o,_,_,h=>CAt.sets r (o+1) _ _ (h.set o v)
theorem CAt.z0C{ds:Array Value}(h:CAt ty w b cs)(hd:ds.size=cs.size):CAt ty (w.setCells b 0 ds.toList) b ds:=by
 have:=CAt.sets ds.toList 0 w cs h
 rwa [q2t hd]at this
end
def Rep(P:Nat->Prop)(w:World)(v:Value)(sz bts:Nat)(cs:List Value):Prop:=
 ∃ (A:Option Addr) (n C:Nat),v=J1 A n C/\cs.length=n * sz/\n * bts<=140737488351232/\((A=none->C=0)/\n<=C) /\
  (0<n->∃ b off,A=some ⟨b,off,none⟩/\P b/\b<w.heap.size/\∀ j u,cs[j]?=some u->w.cell? ⟨b,off+j,none⟩=some u)
section
variable {P P':Nat->Prop} {w w':World} {v:Value} {sz bts:Nat} {cs:List Value}
theorem Rep.nil(P:Nat->Prop)(w:World)(sz bts:Nat):Rep P w (J1 none 0 0) sz bts []:=⟨none,0,0,rfl,by simp,by simp,⟨fun _=>rfl,Nat.le_refl _⟩,fun h=>absurd h (by omega)⟩
theorem Rep.mono(h:Rep P w v sz bts cs)(c:∀ b,b<w.heap.size->P b->P' b):Rep P' w v sz bts cs:=by
 obtain⟨A,n,C,h1,h2,h3,d,e⟩:=h;refine⟨A,n,C,h1,h2,h3,d,fun h0=>?_⟩;obtain⟨b,off,f,g,a,i⟩:=e h0;exact⟨b,off,f,c b a g,a,i⟩
theorem Rep.keep(h:Rep P w v sz bts cs)(g:∀ b,P b->b<w.heap.size->w'.heap[b]?=w.heap[b]?):Rep P w' v sz bts cs:=by
 obtain⟨A,n,C,h1,h2,h3,i,k⟩:=h;refine⟨A,n,C,h1,h2,h3,i,fun h0=>?_⟩;obtain⟨b,off,l,c,d,m⟩:=k h0
 have f:b<w'.heap.size:=by
  have e:=g b c d;rw[Array.getElem?_eq_getElem d]at e;exact (Array.getElem?_eq_some_iff.1 e).1
 refine⟨b,off,l,c,f,fun j u hu=>?_⟩;rw[<- m j u hu];exact World.cell?_of_block (w:=w) (a:=⟨b,off+j,none⟩) (g b c d)
theorem Rep.over(h:Rep P w v sz bts cs)(c:Bl w w'):Rep P w' v sz bts cs:=h.keep fun b _ a=>c.block b a
theorem Rep.open(h:Rep P w v sz bts cs){n:Nat}(f:cs.length=n * sz)(g:0<sz):∃ (A:Option Addr) (C:Nat),v=J1 A n C/\n * bts<=140737488351232/\(A=none->n=0/\C=0)/\(0<n->∃ b off,A=some ⟨b,off,none⟩/\P b/\b<w.heap.size/\∀ j u,cs[j]?=some u->w.cell? ⟨b,off+j,none⟩=some u)/\(∀ a,A=some a->∀ j u,cs[j]?=some u->w.cell? (a.add j)=some u):=by
 obtain⟨A,m,C,h1,h2,h3,i,c⟩:=h;have e:m=n:=Nat.eq_of_mul_eq_mul_right g (h2.symm.trans f);subst e;refine⟨A,C,h1,h3,fun e=>⟨?_,i.1 e⟩,c,fun a e j u hu=>?_⟩
 ·rcases Nat.eq_zero_or_pos m with h0 | h0
  ·exact h0
  ·obtain⟨b,off,d,_⟩:=c h0;rw[d]at e;cases e
 ·rcases Nat.eq_zero_or_pos m with h0 | h0
  ·subst h0;have:=(List.getElem?_eq_some_iff.1 hu).1;omega
  ·obtain⟨b,off,d,_,_,k⟩:=c h0;rw[d]at e;cases e;rw[Addr.add_lit];exact k j u hu
theorem Rep.room(h:Rep P w v sz bts cs){A:Option Addr}{n C:Nat}(b:v=J1 A n C):n<=C/\(A=none->C=0):=by
 obtain⟨A',c,C',h1,_,_,a,_⟩:=h;rw[b]at h1;cases h1;exact⟨a.2,a.1⟩
theorem Rep.own{base n:Nat}{e:TypeId}(h:w.ownsRow base e sz v n cs)(a:n * bts<=140737488351232):Rep (fun b=>base<=b) w v sz bts cs:=by
 rcases h.2 with⟨hv,hn⟩ | ⟨g,cap,cur,hv,h1,h2,h3,_⟩
 ·exact⟨none,0,0,hv,by rw[h.1,hn],by omega,⟨fun _=>rfl,Nat.le_refl _⟩,fun h=>absurd h (by omega)⟩
 ·subst hv;refine⟨_,n,cap,rfl,h.1,a,⟨fun h=>(by cases h),h3⟩,fun _=>⟨g,0,rfl,h1,(Array.getElem?_eq_some_iff.1 h2).1,fun j u hu=>?_⟩⟩
  have:=World.ownsRow.cells h (g:=g) rfl j u hu
  rwa [Addr.add_lit]at this
end
def pwC(l:List (Int×Int)):List Value:=l.flatMap fun x=>[J I x.1,J I x.2]
def inC(l:List Int):List Value:=l.map (.int .i64)
def txC(l:List ByteArray):List Value:=l.map .string
theorem z0r:∀ l:List (Int×Int),(pwC l).length=l.length * 2
 | []=>rfl
 | x :: l=>by show (_ ++ pwC l).length=_;rw[List.length_append,z0r l,List.length_cons];simp;omega
theorem z0M(l:List Int):(inC l).length=l.length * 1:=by simp[inC]
theorem z4E(l:List ByteArray):(txC l).length=l.length * 1:=by simp[txC]
theorem z2t:∀ (l:List (Int×Int)) (i:Nat),i<l.length->(pwC l)[i * 2]?=some (J I (l.getD i (0,0)).1)/\(pwC l)[i * 2+1]?=some (J I (l.getD i (0,0)).2)
 | [],i,h=>absurd h (by simp)
 | x :: l,0,_=>⟨rfl,rfl⟩
 | x :: l,i+1,h=>by
  have:=z2t l i (by simpa using h)
  rw[show (i+1) * 2=i * 2+2 by omega]
  exact this
theorem z3f(l:List Int)(i:Nat)(h:i<l.length):(inC l)[i]?=some (J I (l.getD i 0)):=by simp[inC,List.getD,h]
theorem q2Q(l:List ByteArray)(i:Nat)(h:i<l.length):(txC l)[i]?=some (.string (l.getD i ByteArray.empty)):=by simp[txC,List.getD,h]
theorem z8L(l:List (Int×Int)):∀ u∈pwC l,u.oneCell'=true:=fun u hu=>by
 simp only[pwC,List.mem_flatMap,List.mem_cons,List.not_mem_nil,or_false]at hu;obtain⟨x,_,rfl | rfl⟩:=hu <;> rfl
structure Pkt where
 k:Int
 i:Int
 v:Int
 n:Int
 S:List (Int×Int)
 D:List Int
def z8O:List Nat->Code->Code
 | [],c=>c
 | 0 :: p,.seq a _=>z8O p a
 | 1 :: p,.seq _ b=>z8O p b
 | _ :: p,.block _ c=>z8O p c
 | _ :: p,.loop c=>z8O p c
 | 1 :: p,.cond _ a _=>z8O p a
 | 2 :: p,.cond _ _ b=>z8O p b
 | _,_=>.skip
end Pv
namespace Ln
open Go.RowKit
structure Line where
 S:List ByteArray
 D:List Int
 g:Int
 cl:Bool
def z0F(w:World)(b off:Nat)(l:List Int):Prop:=∀ i,i<l.length->w.cell? ⟨b,off+i,none⟩=some (J I (l.getD i 0))
def z3c(w:World)(b off:Nat)(l:List ByteArray):Prop:=∀ i,i<l.length->w.cell? ⟨b,off+i,none⟩=some (.string (l.getD i ByteArray.empty))
theorem z0F.z3G{B:Nat}{w w':World}{b off:Nat}{l:List Int}(h:z0F w b off l)(a:Below B w w')(c:0<l.length->b<B):z0F w' b off l:=fun i d =>
 (a.cell (p:=⟨b,off+i,none⟩) (c (by omega))).trans (h i d)
theorem z0F.later{w w':World}{b off:Nat}{l:List Int}(h:z0F w b off l)(c:Bl w w'):z0F w' b off l:=fun i a =>
 (c.cell (p:=⟨b,off+i,none⟩) (World.block_lt_of_cell? w _ (h i a))).trans (h i a)
theorem z3c.later{w w':World}{b off:Nat}{l:List ByteArray}(h:z3c w b off l)(c:Bl w w'):z3c w' b off l:=fun i a =>
 (c.cell (p:=⟨b,off+i,none⟩) (World.block_lt_of_cell? w _ (h i a))).trans (h i a)
structure LAt(w:World)(x:Line)(sa da:Option Addr)(cs cd sb so db dO:Nat):Prop where
 hls:x.S.length * 16<=140737488351232
 hld:x.D.length * 8<=140737488351232
 hsa:0<x.S.length->sa=some ⟨sb,so,none⟩
 hda:0<x.D.length->da=some ⟨db,dO,none⟩
 ncs:sa=none->cs=0
 ncd:da=none->cd=0
 PS:z3c w sb so x.S
 PD:z0F w db dO x.D
theorem LAt.later{w w':World}{x:Line}{sa da:Option Addr}{cs cd sb so db dO:Nat}(h:LAt w x sa da cs cd sb so db dO)(a:Bl w w'):LAt w' x sa da cs cd sb so db dO:=
 ⟨h.hls,h.hld,h.hsa,h.hda,h.ncs,h.ncd,h.PS.later a,h.PD.later a⟩
theorem LAt.ltS{w:World}{x:Line}{sa da:Option Addr}{cs cd sb so db dO:Nat}(h:LAt w x sa da cs cd sb so db dO)(h0:0<x.S.length):sb<w.heap.size:=World.block_lt_of_cell? w _ (h.PS 0 h0)
theorem LAt.ltD{w:World}{x:Line}{sa da:Option Addr}{cs cd sb so db dO:Nat}(h:LAt w x sa da cs cd sb so db dO)(h0:0<x.D.length):db<w.heap.size:=World.block_lt_of_cell? w _ (h.PD 0 h0)
theorem J6{p:Prop}(h:p):Hid p:=h
theorem z0m(w:World)(o:Obj):Bl w (w.alloc o):=znw _ o
theorem z1A{w w':World}{o:Obj}(h:Below (w.alloc o).heap.size (w.alloc o) w'):Bl w w':=
 (z0m w o).trans (h.mono (by simp))
theorem z0N{w w1 a:World}(h:Bl w w1)(k:Bl w1 a):Bl w a:=zbt h k
theorem z7t{W w1:World}(a:Bl W w1):(∀ b o,b<W.heap.size->w1.cell? ⟨b,o,none⟩=W.cell? ⟨b,o,none⟩)/\(∀ b o,b<W.heap.size->w1.frozen? ⟨b,o,none⟩=W.frozen? ⟨b,o,none⟩):=
 ⟨fun b o h=>a.cell (p:=⟨b,o,none⟩) h,fun b o h=>a.frozen (p:=⟨b,o,none⟩) h⟩
def nonneg(l:List Int):Bool:=l.all fun d=>decide (0<=d)
theorem z5A{l:List Int}{k:Nat}(h:nonneg (l.take k)=true)(hl:k<l.length)(hd:0<=l.getD k 0):nonneg (l.take (k+1))=true:=by
 rw[List.take_succ_eq_append_getElem hl]
 simp[List.getD,hl]at hd
 unfold nonneg at *;rw[List.all_append,h]
 simp[hd]
theorem z6q{l:List Int}{k:Nat}(hl:k<l.length)(hd:l.getD k 0<0):nonneg l=false:=by
 simp[List.getD,hl]at hd
 simp only[nonneg,List.all_eq_false,decide_eq_true_eq];exact⟨l[k],List.getElem_mem hl,by omega⟩
def z1C(x:Line):Bool:=decide (x.D.length=x.S.length) && decide (x.S.length<=400) && nonneg x.D && decide (0<=x.g) && decide (x.g<=x.S.length)
def z8D(x:Line):Int:=if z1C x=false then 2 else if x.cl=true then 11 else 0
def z4M(x:Line)(due:Int):Int:=if due<0 then 2 else if z8D x≠0 then z8D x else if 400<=x.S.length then 6 else 0
def z5z(x:Line)(s:ByteArray)(due:Int):Line:=if z4M x due=0 then ⟨x.S ++ [s],x.D ++ [due],x.g,x.cl⟩ else x
theorem z5w{x:Line}(h:z1C x=true):x.D.length=x.S.length/\x.S.length<=400/\0<=x.g/\x.g<=x.S.length:=by
 simp[z1C]at h
 omega
theorem z5D{x:Line}(h:z8D x=0):z1C x=true/\x.cl=false:=by
 unfold z8D at h
 split at h
 ·omega
 split at h
 ·omega
 exact⟨by simpa using ‹¬ z1C x=false›,by simpa using ‹¬ x.cl=true›⟩
theorem z8R(x:Line) :
  (x.D.length≠x.S.length/\z1C x=false)∨(x.D.length=x.S.length/\400<x.S.length/\z1C x=false) ∨
  (x.D.length=x.S.length/\x.S.length<=400/\(nonneg x.D=false->z1C x=false)/\(nonneg x.D=true->z1C x=(decide (0<=x.g) && decide (x.g<=x.S.length)))):=by
 by_cases h1:x.D.length=x.S.length
 ·right
  by_cases h2:x.S.length<=400
  ·right
   exact⟨h1,h2,fun h3=>by simp[z1C,h3],fun h3=>by simp[z1C,h1,h2,h3]⟩
  ·left
   exact⟨h1,by omega,by simp[z1C,h2]⟩
 ·left
  exact⟨h1,by simp[z1C,h1]⟩
theorem z0u(x:Line)(sa da:Option Addr)(cs cd sb so db dO:Nat)(w:World)(L:LAt w x sa da cs cd sb so db dO) :
  Calls prog 81 #[J4 #[J1 sa x.S.length cs,J1 da x.D.length cd,J I x.g,J3 x.cl]] w fun e w'=>e=.returned (J3 (z1C x))/\Bl w w':=by
 obtain⟨S,D,g,cl⟩:=x;have l:=z8R ⟨S,D,g,cl⟩;obtain⟨hls,hld,hsa,hda,-,-,PS,PD⟩:=L;have a:Hid (∀ o,Bl w (w.alloc o)):=fun o=>z0m w o;have m:Hid (0<D.length->da=some ⟨db,dO,none⟩):=hda;have n:Hid (z0F w db dO D):=PD;clear hsa hda PS PD;dsimp only at *;generalize z1C ⟨S,D,g,cl⟩=G at *
 rcases l with⟨h1,rfl⟩ | ⟨h1,h2,rfl⟩ | ⟨h1,h2,h3,h4⟩
 ·have d:((D.length:Int) != (S.length:Int))=true:=by simp;omega
  clear h1
  go_enter func81,ntmps81
  go_wp2;go_ret;exact⟨rfl,a.out _⟩
 ·have d:((D.length:Int) != (S.length:Int))=false:=by simp;omega
  clear h1
  go_enter func81,ntmps81
  go_wp2;go_ret;exact⟨rfl,a.out _⟩
 ·have d:((D.length:Int) != (S.length:Int))=false:=by simp;omega
  have u:D.length<=400:=by omega
  have r:Hid ((nonneg D=false->G=false)/\(nonneg D=true->G=(decide (0<=g) && decide (g<=S.length)))):=⟨h3,h4⟩;clear h1 h3 h4
  go_enter func81,ntmps81
  go_wp2
  go_loop [21] (fun i=>∃ (k:Nat),k<=D.length/\i=J I (k:Int)/\Hid (nonneg (D.take k)=true)) (fun i=>D.length - (intOf i).toNat)
  case atStart=>exact⟨0,Nat.zero_le _,rfl,by simp[Hid,nonneg]⟩
  case round =>
   obtain⟨k,v,rfl,s⟩:=hrel
   by_cases b:k<D.length
   ·have hcell:=(n.out.later (a.out (J5 #[J1 sa S.length cs,J1 da D.length cd,J I g,J3 cl] 37))) k b;obtain⟨y,p⟩:∃ y,D.getD k 0=y:=⟨_,rfl⟩;rw[p]at hcell;have t:Hid (D.getD k 0=y):=p;clear p;have e:=m.out (by omega)
    subst e
    by_cases q:y<0
    ·go_wp2;go_ret;exact⟨by rw[r.out.1 (z6q b (by rw[t.out];exact q))];rfl,a.out _⟩
    ·go_wp2
     go_round
     case rel=>exact⟨k+1,by omega,by go_num,z5A s.out b (by rw[t.out];omega)⟩
     case measure=>simp[intOf];omega
   ·have c:=r.out.2 (by have:=s.out;rwa [List.take_of_length_le (by omega)]at this)
    by_cases f:0<=g
    ·by_cases h:g<=(S.length:Int)
     ·have j:Hid (G=true):=by show _=_;rw[c];simp[f,h]
      clear c;go_wp2;go_ret;exact⟨by rw[j.out];rfl,a.out _⟩
     ·have j:Hid (G=false):=by show _=_;rw[c];simp[h]
      clear c;go_wp2;go_ret;exact⟨by rw[j.out];rfl,a.out _⟩
    ·have j:Hid (G=false):=by show _=_;rw[c];simp[f]
     clear c;go_wp2;go_ret;exact⟨by rw[j.out];rfl,a.out _⟩
theorem q7v(x:Line)(sa da:Option Addr)(cs cd sb so db dO:Nat)(w:World)(L:LAt w x sa da cs cd sb so db dO) :
  Calls prog 116 #[J4 #[J1 sa x.S.length cs,J1 da x.D.length cd,J I x.g,J3 x.cl]] w fun e w'=>e=.returned (J I (z8D x))/\Bl w w':=by
 have c:=z0u x sa da cs cd sb so db dO _ (L.later (z0m w (J5 #[J1 sa x.S.length cs,J1 da x.D.length cd,J I x.g,J3 x.cl] 37)));clear L;obtain⟨S,D,g,cl⟩:=x;unfold z8D;dsimp only at *;generalize z1C ⟨S,D,g,cl⟩=G at *;cases G <;> cases cl
 all_goals go_enter func116,ntmps116
 all_goals go_wp2_with (go_at_call 81;refine c.mono ?_;rintro e w1⟨rfl,a⟩;obtain⟨d,f⟩:=z7t a;have b:Hid (Bl w w1):=z1A a;clear a)
 all_goals go_ret
 all_goals exact⟨rfl,b.out⟩
theorem z7x:(prog.info? 9).map (fun i=>(i.zero,i.size,i.bytes))=some (some (.string ⟨#[]⟩),1,16):=by kernel_rfl
theorem q1J:(prog.info? 3).map (fun i=>(i.zero,i.size,i.bytes))=some (some (J I 0),1,8):=by kernel_rfl
theorem q0q{B:Nat}{w:World}{g n c e:Nat}{l:List ByteArray}(h:w.ownsRow B e 1 (J1 (some ⟨g,0,none⟩) n c) n (l.map .string)):B<=g/\g<w.heap.size/\z3c w g 0 l:=by
  rcases h.2 with⟨h1,_⟩ | ⟨g',cap,cur,hv,hb,hg,hn,hm,hs,ht⟩
  · cases h1
  · cases hv
    refine⟨hb,(Array.getElem?_eq_some_iff.1 hg).1,fun i a=>?_⟩;have hl:l.length=n:=by have:=h.1;simpa using this
    have:(cur.toList.take (n * 1))[i]?=some (.string (l.getD i ByteArray.empty)):=by rw[ht];simp[List.getD,a]
    rw[List.getElem?_take_of_lt (by omega)]at this
    simp only[World.cell?,hg,Nat.zero_add]
    simpa using this
theorem q0B{B:Nat}{w:World}{g n c e:Nat}{l:List Int}(h:w.ownsRow B e 1 (J1 (some ⟨g,0,none⟩) n c) n (l.map (.int .i64))):B<=g/\g<w.heap.size/\z0F w g 0 l:=by
  rcases h.2 with⟨h1,_⟩ | ⟨g',cap,cur,hv,hb,hg,hn,hm,hs,ht⟩
  · cases h1
  · cases hv
    refine⟨hb,(Array.getElem?_eq_some_iff.1 hg).1,fun i a=>?_⟩;have hl:l.length=n:=by have:=h.1;simpa using this
    have:(cur.toList.take (n * 1))[i]?=some (J I (l.getD i 0)):=by rw[ht];simp[List.getD,a]
    rw[List.getElem?_take_of_lt (by omega)]at this
    simp only[World.cell?,hg,Nat.zero_add]
    simpa using this
theorem z7H{w:World}{b off:Nat}{l:List ByteArray}{a:Option Addr}(f:0<l.length->a=some ⟨b,off,none⟩)(g:z3c w b off l):∀ c,a=some c->∀ j u,(l.map Value.string)[j]?=some u->w.cell? (c.add j)=some u:=by
  intro c e j u hu;have d:j<l.length:=by have:=(List.getElem?_eq_some_iff.1 hu).1;simpa using this
  rw[f (by omega)]at e
  cases e;rw[Addr.add_lit,g j d]
  simp[d]at hu
  simp[List.getD,d,hu]
theorem q3t(l:List ByteArray)(a:Option Addr)(c b off:Nat)(s:ByteArray)(w:World)(hl:l.length<=400)(v:0<l.length->a=some ⟨b,off,none⟩)(L:a=none->c=0)(M:z3c w b off l) :
    Calls prog 117 #[J1 a l.length c,Value.string s] w fun e w'=>∃ g C,e=.returned (J1 (some ⟨g,0,none⟩) (l ++ [s]).length C)/\w.heap.size<=g/\g<w'.heap.size/\z3c w' g 0 (l ++ [s])/\Bl w w':=by
  obtain⟨r,x,y,d,z⟩:=info_parts z7x;have A:r.bytes * (l.length+1)<=281474976710656:=by rw[z];omega
  have B:l.length+1<=maxLen:=by unfold maxLen;omega
  have D:a=none->l.length=0/\c=0:=fun e=>by
    refine⟨?_,L e⟩
    rcases Nat.eq_zero_or_pos l.length with h | h
    · exact h
    · rw[v h]at e;cases e
  have N:Hid (0<l.length->a=some ⟨b,off,none⟩):=v;have P:Hid (z3c w b off l):=M
  have E:∀ u∈l.map Value.string,u.oneCell'=true:=fun u hu=>by
    simp at hu
    obtain⟨t,_,rfl⟩:=hu;rfl
  clear v M L
  go_enter func117,ntmps117
  go_wp2_with (first
    | (refine wpList_make_own _ rfl _ _ 35 rfl w.heap.size 9 r _ 1 underlying35 x y d .i64 .i64 _ (l.length+1) rfl rfl ?_ A B (Nat.le_refl _) ?_
       · first | omega | simp
       intro w1 i j;have F:=(Below.refl w.heap.size w).grown j (Nat.le_refl _) (fun k m=>by cases m)
       have n:=J6 F;have G:=z7H N.out (P.out.later F)
       clear F j)
    | (have _m:=G
       at_builtin
       refine wpList_append_fits_any _ rfl _ _ 35 rfl w.heap.size 9 r 1 underlying35 x d w.heap.size 0 (l.length+1) [] rfl i a l.length c (l.map Value.string) rfl (by simp) D G E (by omega) ?_
       intro Q o p;have f:=J6 (n.out.grown p n.out.size (fun k m=>by cases m;exact Nat.le_refl _))
       rw[List.nil_append,Nat.zero_add]at o
       clear p G i)
    | (at_builtin
       refine wpList_append_fits _ rfl _ _ 35 rfl w.heap.size 9 r 1 underlying35 x d w.heap.size l.length (l.length+1) (l.map Value.string) ?_ (World.ownsRow.alloc o _) ⟨Q.heap.size,0,none⟩ 1 1 [Value.string s] rfl rfl (cell_one_new _ _ _) (by simp[Value.oneCell']) (by omega) ?_
       · first | rfl | simp
       intro T q H
       have K:=J6 ((f.out.alloc f.out.size _).grown H (Nat.le_trans f.out.size (by simp)) (fun k m=>by cases m;exact Nat.le_refl _))))
  go_ret;rw[show l.map Value.string ++ [Value.string s]=(l ++ [s]).map Value.string by simp]at q
  obtain⟨U,R,S⟩:=q0q q;exact⟨w.heap.size,l.length+1,by simp,Nat.le_refl _,R,S,K.out⟩
theorem z8p{w:World}{b off:Nat}{l:List Int}{a:Option Addr}(f:0<l.length->a=some ⟨b,off,none⟩)(g:z0F w b off l):∀ c,a=some c->∀ j u,(l.map (Value.int .i64))[j]?=some u->w.cell? (c.add j)=some u:=by
  intro c e j u hu;have d:j<l.length:=by have:=(List.getElem?_eq_some_iff.1 hu).1;simpa using this
  rw[f (by omega)]at e
  cases e;rw[Addr.add_lit,g j d]
  simp[d]at hu
  simp[List.getD,d,hu]
theorem q4C(l:List Int)(a:Option Addr)(c b off:Nat)(s:Int)(w:World)(hl:l.length<=400)(v:0<l.length->a=some ⟨b,off,none⟩)(L:a=none->c=0)(M:z0F w b off l) :
    Calls prog 118 #[J1 a l.length c,(Value.int .i64) s] w fun e w'=>∃ g C,e=.returned (J1 (some ⟨g,0,none⟩) (l ++ [s]).length C)/\w.heap.size<=g/\g<w'.heap.size/\z0F w' g 0 (l ++ [s])/\Bl w w':=by
  obtain⟨r,x,y,d,z⟩:=info_parts q1J;have A:r.bytes * (l.length+1)<=281474976710656:=by rw[z];omega
  have B:l.length+1<=maxLen:=by unfold maxLen;omega
  have D:a=none->l.length=0/\c=0:=fun e=>by
    refine⟨?_,L e⟩
    rcases Nat.eq_zero_or_pos l.length with h | h
    · exact h
    · rw[v h]at e;cases e
  have N:Hid (0<l.length->a=some ⟨b,off,none⟩):=v;have P:Hid (z0F w b off l):=M
  have E:∀ u∈l.map (Value.int .i64),u.oneCell'=true:=fun u hu=>by
    simp at hu
    obtain⟨t,_,rfl⟩:=hu;rfl
  clear v M L
  go_enter func118,ntmps118
  go_wp2_with (first
    | (refine wpList_make_own _ rfl _ _ 34 rfl w.heap.size 3 r _ 1 underlying34 x y d .i64 .i64 _ (l.length+1) rfl rfl ?_ A B (Nat.le_refl _) ?_
       · first | omega | simp
       intro w1 i j;have F:=(Below.refl w.heap.size w).grown j (Nat.le_refl _) (fun k m=>by cases m)
       have n:=J6 F;have G:=z8p N.out (P.out.later F)
       clear F j)
    | (have _m:=G
       at_builtin
       refine wpList_append_fits_any _ rfl _ _ 34 rfl w.heap.size 3 r 1 underlying34 x d w.heap.size 0 (l.length+1) [] rfl i a l.length c (l.map (Value.int .i64)) rfl (by simp) D G E (by omega) ?_
       intro Q o p;have f:=J6 (n.out.grown p n.out.size (fun k m=>by cases m;exact Nat.le_refl _))
       rw[List.nil_append,Nat.zero_add]at o
       clear p G i)
    | (at_builtin
       refine wpList_append_fits _ rfl _ _ 34 rfl w.heap.size 3 r 1 underlying34 x d w.heap.size l.length (l.length+1) (l.map (Value.int .i64)) ?_ (World.ownsRow.alloc o _) ⟨Q.heap.size,0,none⟩ 1 1 [(Value.int .i64) s] rfl rfl (cell_one_new _ _ _) (by simp[Value.oneCell']) (by omega) ?_
       · first | rfl | simp
       intro T q H
       have K:=J6 ((f.out.alloc f.out.size _).grown H (Nat.le_trans f.out.size (by simp)) (fun k m=>by cases m;exact Nat.le_refl _))))
  go_ret;rw[show l.map (Value.int .i64) ++ [(Value.int .i64) s]=(l ++ [s]).map (Value.int .i64) by simp]at q
  obtain⟨U,R,S⟩:=q0B q;exact⟨w.heap.size,l.length+1,by simp,Nat.le_refl _,R,S,K.out⟩
end Ln
section
open Go.RowKit
theorem eqA(w:World)(a b c d b0 b1 b2 b3:Int):(Op.equalIn 9999 22 (J4 #[J I a,J I b,J I c,J I d]) (J4 #[J I b0,J I b1,J I b2,J I b3])).run prog w=.ok (decide (a=b0/\b=b1/\c=b2/\d=b3)) w:=by
 have e:(prog.info? 3).isSome=true:=by kernel_rfl
 obtain⟨i,e⟩:=Option.isSome_iff_exists.1 e;have f:prog.cellsOf 3=1:=by kernel_rfl
 rw[run_equalIn_array w 9998 _ _ underlying22 e,f,show List.range 4=[0,1,2,3] from rfl];simp only[Op.eqItems];go_simp
 by_cases h0:a=b0 <;> by_cases h1:b=b1 <;> by_cases h2:c=b2 <;> by_cases h3:d=b3 <;> simp[h0,h1,h2,h3]
theorem eqB(w:World)(a b c d f i j b0 b1 b2 b3 k l m:Int):(binOp .eql 24 (J4 #[J I a,J I b,J I c,J I d,J I f,J I i,J I j]) (J4 #[J I b0,J I b1,J I b2,J I b3,J I k,J I l,J I m])).run prog w=.ok (J3 (decide (a=b0/\b=b1/\c=b2/\d=b3/\f=k/\i=l/\j=m))) w:=by
 have h:=fun w=>eqA w a b c d b0 b1 b2 b3;rw[run_eql_struct]
 by_cases n:a=b0/\b=b1/\c=b2/\d=b3
 ·rw[decide_eq_true n]at h;obtain⟨h0,h1,h2,h3⟩:=n;go_simp;subst h0 h1 h2 h3
  by_cases o:f=k <;> by_cases p:i=l <;> by_cases q:j=m <;> simp[o,p,q,h]
 ·rw[decide_eq_false n]at h;have e:decide (a=b0/\b=b1/\c=b2/\d=b3/\f=k/\i=l/\j=m)=false:=decide_eq_false (fun g=>n ⟨g.1,g.2.1,g.2.2.1,g.2.2.2.1⟩);rw[e];go_simp
theorem neB(w:World)(b c d e f g i b0 b1 b2 b3 j k l:Int):(binOp .neq 24 (J4 #[J I b,J I c,J I d,J I e,J I f,J I g,J I i]) (J4 #[J I b0,J I b1,J I b2,J I b3,J I j,J I k,J I l])).run prog w=.ok (J3 (!decide (b=b0/\c=b1/\d=b2/\e=b3/\f=j/\g=k/\i=l))) w:=by
 have h:=eqB w b c d e f g i b0 b1 b2 b3 j k l;rw[run_eql_struct]at h;rw[run_neq_struct]
 revert h
 generalize (Op.equalIn 10000 24 _ _).run prog w=r;intro h;cases r with
 | ok a w1=>
  simp only[Result.andThen_ok]at h ⊢;cases h;rfl
 | _=>cases h
end
section
def z1u(s:St)(d v n:Int):St×Int:=
 if z1i s d v=0 then
  if (s.V v.toNat).dead=true then (s,15)
  else if (decide (0<n) && inA n)=true then
   if shE (s.V v.toNat) n=0 then
    if (z2P s.b d n).2=0 then (q6q { s with b:=(z2P s.b d n).1 } d.toNat v.toNat n (shN (s.V v.toNat) n),0)
    else (s,(z2P s.b d n).2)
   else (s,shE (s.V v.toNat) n)
  else (s,2)
 else (s,z1i s d v)
end
namespace Ra
open Go.RowKit
theorem q1T(a y:Int)(l0:0<=a)(l1:a<18446744073709551616)(b:0<y)(_hy:y<9223372036854775808)(w:World) :
  Calls prog 160 #[.int .u64 0,.int .u64 a,.int .u64 y] w fun e w'=>∃ r,e=.returned (.tuple #[.int .u64 (a / y),.int .u64 r])/\Bl w w':=by
 have f:(y == 0)=false:=by simp;omega
 have c:¬ y=0:=by omega
 have g:¬ y<=0:=by omega
 have d:a.tdiv y=a / y:=Int.tdiv_eq_ediv_of_nonneg l0;have b0:0<=a / y:=Int.ediv_nonneg l0 (by omega)
 have b1:a / y<=a:=Int.ediv_le_self _ l0;obtain⟨q,hq⟩:∃ q,a / y=q:=⟨_,rfl⟩;rw[hq]at d b0 b1 ⊢;have eq:IntKind.u64.wrap q=q:=by rw[IntKind.wrap_u64];omega
 go_enter func160,ntmps160
 go_wp2;go_quiet (fail);go_wp2;go_ret2;exact⟨_,rfl,⟨rfl,rfl,rfl,Nat.le_refl _,fun _ _=>rfl⟩⟩
theorem q9W(g d y:Int)(h0:0<=g)(h1:g<y)(l0:0<=d)(l1:d<18446744073709551616)(x:y<9223372036854775808)(w:World) :
  Calls prog 160 #[.int .u64 g,.int .u64 d,.int .u64 y] w fun e w'=>∃ r,e=.returned (.tuple #[.int .u64 ((g * 18446744073709551616+d) / y),.int .u64 r])/\Bl w w':=by
 by_cases z:g=0
 ·subst z;have e:0 * 18446744073709551616+d=d:=by omega
  rw[e];exact q1T d y l0 l1 h1 x w
 ·obtain⟨b,rfl⟩:=Int.eq_ofNat_of_zero_le h0;obtain⟨a,rfl⟩:=Int.eq_ofNat_of_zero_le l0;obtain⟨f,rfl⟩:=Int.eq_ofNat_of_zero_le (show 0<=y by omega)
  obtain⟨s,C,h,i,m,j⟩:=q2m f (by omega) (by omega)
  obtain⟨e,b1,b2,b3⟩:=q0Q b a f s h i (by omega) (by omega) j
  have A:∀ w,Calls prog 168 #[.int .u64 (f:Int)] w fun e w'=>e=.returned (J I s)/\w'=w:=fun w=>by
   have:=q3D f (by omega) (by omega) w
   rwa [show (64:Int) - (bitLen f:Int)=(s:Int) by omega]at this
  have k:((2 ^ s:Nat):Int)=(2:Int) ^ s:=by rw[Int.natCast_pow];rfl
  have n:((2 ^ (64 - s):Nat):Int)=(2:Int) ^ (64 - s):=by rw[Int.natCast_pow];rfl
  have D:a / 2 ^ (64 - s)<=a:=Nat.div_le_self _ _;obtain⟨Y,o⟩:∃ Y,f * 2 ^ s=Y:=⟨_,rfl⟩;obtain⟨u,B⟩:∃ u,b * 2 ^ s+a / 2 ^ (64 - s)=u:=⟨_,rfl⟩;obtain⟨N,t⟩:∃ N,a * 2 ^ s % 18446744073709551616=N:=⟨_,rfl⟩;have E:N<18446744073709551616:=by omega
  have l:=q7a b (a / 2 ^ (64 - s)) s b2 b3 (by omega)
  rw[B]at e b1 l;rw[o]at m j b1;rw[t]at e
  have c:=q1e (b:Int) (a:Int) (f:Int) (Y:Int) ((Y:Int) / 4294967296) ((Y:Int) % 4294967296) ((b * 2 ^ s:Nat):Int) ((a / 2 ^ (64 - s):Nat):Int) (u:Int) (N:Int) ((N:Int) / 4294967296) ((N:Int) % 4294967296)
   _ _ _ s (by omega) h1 h i
   (by rw[<- k,<- Int.natCast_mul,o,IntKind.wrap_u64];omega) rfl (and_low32 _ (by omega) (by omega))
   (by rw[<- k,<- Int.natCast_mul,IntKind.wrap_u64];omega) (by rw[<- n,<- Int.natCast_ediv]) l
   (by rw[<- k,<- Int.natCast_mul,IntKind.wrap_u64,<- t];omega) rfl (and_low32 _ (by omega) (by omega))
   (by omega) (by omega) (by omega) (by omega) (by omega) (by show _=_;omega) (by show _<_;omega) (by omega) (by omega) (by omega) (by omega) rfl rfl rfl A w
  have p:(Y:Int) / 4294967296 * 4294967296+(Y:Int) % 4294967296=(Y:Int):=by omega
  rw[p,q1n _ _ _ _ (by omega)]at c
  have q:(u:Int) * 18446744073709551616+(N:Int) / 4294967296 * 4294967296+(N:Int) % 4294967296=((b:Int) * 18446744073709551616+(a:Int)) * (2:Int) ^ s:=by
   have:(u:Int) * 18446744073709551616+(N:Int)=((b:Int) * 18446744073709551616+(a:Int)) * (2:Int) ^ s:=by
    rw[<- k];have v:(((b * 18446744073709551616+a) * 2 ^ s:Nat):Int)=((u * 18446744073709551616+N:Nat):Int):=by rw[e]
    rw[Int.natCast_mul,Int.natCast_add,Int.natCast_mul,Int.natCast_add,Int.natCast_mul]at v;exact v.symm
   rw[<- this];omega
  rw[q,<- o,Int.natCast_mul,k,q1H _ _ _ (Int.pow_pos (by decide))]at c
  exact c
/-! ### the answers -/
def mdN(a b c:Int):Int:=if a<0∨b<0∨c<1 then 0 else if a * b / c<=1125899906842624 then a * b / c else 0
def mdE(a b c:Int):Int:=if a<0∨b<0∨c<1 then 2 else if a * b / c<=1125899906842624 then 0 else 2
theorem q9M{a b c:Int}(h:a<0∨b<0∨c<1):mdN a b c=0/\mdE a b c=2:=by
 unfold mdN mdE;rw[if_pos h,if_pos h];exact⟨rfl,rfl⟩
theorem q7b{a b c:Int}(h:1125899906842624<a * b / c):mdN a b c=0/\mdE a b c=2:=by
 unfold mdN mdE;have:¬ a * b / c<=1125899906842624:=by omega
 by_cases g:a<0∨b<0∨c<1
 ·rw[if_pos g,if_pos g];exact⟨rfl,rfl⟩
 ·rw[if_neg g,if_neg g,if_neg this,if_neg this];exact⟨rfl,rfl⟩
theorem q2I{a b c:Int}(h1:0<=a)(h2:0<=b)(h3:1<=c)(h:a * b / c<=1125899906842624):mdN a b c=a * b / c/\mdE a b c=0:=by
 unfold mdN mdE;have g:¬ (a<0∨b<0∨c<1):=by omega
 rw[if_neg g,if_neg g,if_pos h,if_pos h];exact⟨rfl,rfl⟩
theorem z8y(a b c:Int)(v:0<=a)(D:a<=9223372036854775807)(b0:0<=b)(b1:b<=9223372036854775807)(c0:1<=c)(c1:c<=9223372036854775807)(w:World) :
  Calls prog 145 #[J I a,J I b,J I c] w fun e w'=>e=.returned (.tuple #[J I (mdN a b c),J I (mdE a b c)])/\Bl w w':=by
 have K:¬ a<0:=by omega
 have L:¬ b<0:=by omega
 have M:¬ c<1:=by omega
 have o:=j0d a b v (by omega) b0 (by omega)
 have j:0<=a * b:=Int.mul_nonneg v b0
 have g:a * b<340282366920938463463374607431768211456:=by
  have:=Int.mul_le_mul D b1 b0 (by omega)
  omega
 have E:=Int.mul_ediv_add_emod (a * b) c;have f:Hid (a * b / c<=1125899906842624->mdN a b c=a * b / c/\mdE a b c=0):=fun h=>q2I v b0 c0 h;have d:Hid (1125899906842624<a * b / c->mdN a b c=0/\mdE a b c=2):=fun h=>q7b h
 have i:a * b / 18446744073709551616≥c->1125899906842624<a * b / c:=fun h=>by
  have:1125899906842625<=a * b / c:=by
   rw[Int.le_ediv_iff_mul_le (by omega)]
   omega
  omega
 have q:0<=a * b / c:=Int.ediv_nonneg j (by omega)
 generalize mdN a b c=X at *;generalize mdE a b c=Y at *;clear E;generalize a * b=p at *;obtain⟨s,k⟩:∃ h,p / 18446744073709551616=h:=⟨_,rfl⟩;obtain⟨t,m⟩:∃ l,p % 18446744073709551616=l:=⟨_,rfl⟩;have u:s * 18446744073709551616+t=p:=by omega
 have x:0<=s:=by omega
 have y:0<=t:=by omega
 have z:t<18446744073709551616:=by omega
 rw[k]at i o;rw[m]at o
 by_cases F:c<=s
 ·have G:=d.out (i F);obtain⟨rfl,rfl⟩:=G;clear f d i k m u j g q
  go_enter func145,ntmps145
  go_wp2_with (go_at_call 159;refine (o _).mono ?_;rintro e w'⟨rfl,rfl⟩)
  go_ret2;exact⟨rfl,⟨rfl,rfl,rfl,Nat.le_refl _,fun _ _=>rfl⟩⟩
 ·have cd:=q9W s t c x (by omega) y z (by omega)
  rw[u]at cd;obtain⟨n,A⟩:∃ n,p / c=n:=⟨_,rfl⟩;rw[A]at cd f d q
  by_cases H:n<=1125899906842624
  ·obtain⟨rfl,rfl⟩:=f.out H;have B:¬ 1125899906842624<X:=by omega
   clear f d i k m u j g A
   go_enter func145,ntmps145
   go_wp2_with (first | (go_at_call 159;refine (o _).mono ?_;rintro e w'⟨rfl,rfl⟩) | (go_at_call 160;refine (cd _).mono ?_;rintro e w'⟨r,rfl,C⟩))
   go_ret2;exact⟨rfl,C⟩
  ·obtain⟨rfl,rfl⟩:=d.out (by omega)
   have B:1125899906842624<n:=by omega
   clear f d i k m u j g A
   go_enter func145,ntmps145
   go_wp2_with (first | (go_at_call 159;refine (o _).mono ?_;rintro e w'⟨rfl,rfl⟩) | (go_at_call 160;refine (cd _).mono ?_;rintro e w'⟨r,rfl,C⟩))
   go_ret2;exact⟨rfl,C⟩
theorem q1h(a b c:Int)(h:a<0∨b<0∨c<1)(w:World) :
  Calls prog 145 #[J I a,J I b,J I c] w fun e w'=>e=.returned (.tuple #[J I (mdN a b c),J I (mdE a b c)])/\Bl w w':=by
 obtain⟨d,f⟩:=q9M h;rw[d,f];clear d f
 by_cases g:a<0
 ·clear h
  go_enter func145,ntmps145
  go_wp2;go_ret2;exact⟨rfl,⟨rfl,rfl,rfl,Nat.le_refl _,fun _ _=>rfl⟩⟩
 ·by_cases i:b<0
  ·clear h
   go_enter func145,ntmps145
   go_wp2;go_ret2;exact⟨rfl,⟨rfl,rfl,rfl,Nat.le_refl _,fun _ _=>rfl⟩⟩
  ·have j:c<1:=by omega
   clear h
   go_enter func145,ntmps145
   go_wp2;go_ret2;exact⟨rfl,⟨rfl,rfl,rfl,Nat.le_refl _,fun _ _=>rfl⟩⟩
theorem q6T(a b c:Int)(d:a<=9223372036854775807)(b1:b<=9223372036854775807)(c1:c<=9223372036854775807)(w:World) :
  Calls prog 145 #[J I a,J I b,J I c] w fun e w'=>e=.returned (.tuple #[J I (mdN a b c),J I (mdE a b c)])/\Bl w w':=by
 by_cases h:a<0∨b<0∨c<1
 ·exact q1h a b c h w
 ·exact z8y a b c (by omega) d (by omega) b1 (by omega) c1 w
def inB(n:Int):Bool:=decide (0<=n) && decide (n<=1125899906842624)
theorem z5o{n:Int}(h0:0<=n)(h1:n<=1125899906842624):inB n=true:=by simp[inB,h0,h1]
theorem q2k{n:Int}(h:¬ 0<=n):inB n=false:=by simp[inB,h]
theorem z9L{n:Int}(h:¬ n<=1125899906842624):inB n=false:=by simp[inB,h]
theorem z8A{n:Int}:inB n=true↔0<=n/\n<=1125899906842624:=by simp[inB]
theorem j1e(n:Int)(w:World):Calls prog 121 #[J I n] w fun e w'=>e=.returned (J3 (inB n))/\w'=w:=by
 by_cases h0:0<=n
 ·by_cases h1:n<=1125899906842624
  ·rw[z5o h0 h1]
   go_enter func121,ntmps121
   go_wp2;go_ret;exact⟨rfl,rfl⟩
  ·rw[z9L h1]
   go_enter func121,ntmps121
   go_wp2;go_ret;exact⟨rfl,rfl⟩
 ·rw[q2k h0]
  go_enter func121,ntmps121
  go_wp2;go_ret;exact⟨rfl,rfl⟩
def ptN(n f:Int):Int:=if inB n=true/\0<=f/\f<=1000 then n * f / 1000 else 0
def ptE(n f:Int):Int:=if inB n=true/\0<=f/\f<=1000 then 0 else 2
theorem z9t{n f:Int}(h:inB n=true/\0<=f/\f<=1000):ptN n f=n * f / 1000/\ptE n f=0:=by unfold ptN ptE;rw[if_pos h,if_pos h];exact⟨rfl,rfl⟩
theorem z6y{n f:Int}(h:¬ (inB n=true/\0<=f/\f<=1000)):ptN n f=0/\ptE n f=2:=by unfold ptN ptE;rw[if_neg h,if_neg h];exact⟨rfl,rfl⟩
theorem j0B{n f:Int}(h0:0<=n)(f0:0<=f)(f1:f<=1000):0<=n * f / 1000/\n * f / 1000<=n:=by
 have h1:0<=n * f:=Int.mul_nonneg h0 f0;have h2:=Int.mul_le_mul_of_nonneg_left f1 h0;omega
theorem q5X{n f:Int}:n / 1000 * f+n % 1000 * f / 1000=n * f / 1000:=by
 have e:n * f=n % 1000 * f+n / 1000 * f * 1000:=by
  have:=Int.mul_ediv_add_emod n 1000;have a:(1000 * (n / 1000)+n % 1000) * f=n * f:=by rw[this]
  rw[Int.add_mul,Int.mul_assoc]at a;omega
 rw[e,Int.add_mul_ediv_right _ _ (by decide)]
 omega
theorem q5n{n f:Int}(c:0<=n)(d:n<=1125899906842624)(f0:0<=f)(f1:f<=1000):wrap64 (wrap64 (n / 1000 * f)+wrap64 ((wrap64 (n % 1000 * f)).tdiv 1000))=n * f / 1000:=by
 have e:0<=n / 1000 * f:=Int.mul_nonneg (by omega) f0
 have g:=Int.mul_le_mul_of_nonneg_left f1 (show 0<=n / 1000 by omega)
 have b0:0<=n % 1000 * f:=Int.mul_nonneg (by omega) f0
 have b1:=Int.mul_le_mul_of_nonneg_left f1 (show 0<=n % 1000 by omega)
 rw[<- q5X];generalize n / 1000 * f=A at *;generalize n % 1000 * f=B at *;have a:wrap64 A=A:=by unfold wrap64;omega
 have b:wrap64 B=B:=by unfold wrap64;omega
 rw[a,b,Int.tdiv_eq_ediv_of_nonneg b0];unfold wrap64;omega
theorem q8I(n f:Int)(w:World):Calls prog 164 #[J I n,J I f] w fun e w'=>e=.returned (.tuple #[J I (ptN n f),J I (ptE n f)])/\Bl w w':=by
 have i:=j1e n
 by_cases d:inB n=true
 ·obtain⟨k,q⟩:=z8A.1 d
  by_cases f0:f<0
  ·obtain⟨g,h⟩:=z6y (n:=n) (f:=f) (by omega)
   rw[g,h];rw[d]at i;clear g h d
   go_enter func164,ntmps164
   go_wp2_with (go_at_call 121;refine (i _).mono ?_;rintro e w'⟨rfl,rfl⟩)
   go_ret2;exact⟨rfl,⟨rfl,rfl,rfl,Nat.le_refl _,fun _ _=>rfl⟩⟩
  ·by_cases f1:1000<f
   ·obtain⟨g,h⟩:=z6y (n:=n) (f:=f) (by omega)
    rw[g,h];rw[d]at i;clear g h d
    go_enter func164,ntmps164
    go_wp2_with (go_at_call 121;refine (i _).mono ?_;rintro e w'⟨rfl,rfl⟩)
    go_ret2;exact⟨rfl,⟨rfl,rfl,rfl,Nat.le_refl _,fun _ _=>rfl⟩⟩
   ·obtain⟨g,h⟩:=z9t (n:=n) (f:=f) ⟨d,by omega,by omega⟩
    have l:=q6T n f 1000 (by omega) (by omega) (by omega)
    have hl:=j0B (n:=n) (f:=f) k (by omega) (by omega)
    obtain⟨m,o⟩:=q2I (a:=n) (b:=f) (c:=1000) k (by omega) (by omega) (by omega)
    rw[m,o]at l;rw[g,h];rw[d]at i;generalize n * f / 1000=x at *;clear g h m o d
    go_enter func164,ntmps164
    go_wp2_with (first | (go_at_call 121;refine (i _).mono ?_;rintro e w'⟨rfl,rfl⟩) | (go_at_call 145;refine (l _).mono ?_;rintro e w'⟨rfl,p⟩))
    go_ret2;exact⟨rfl,p⟩
 ·obtain⟨g,h⟩:=z6y (n:=n) (f:=f) (by simp[d])
  rw[g,h];have j:inB n=false:=by simpa using d
  rw[j]at i;clear g h d j
  go_enter func164,ntmps164
  go_wp2_with (go_at_call 121;refine (i _).mono ?_;rintro e w'⟨rfl,rfl⟩)
  go_ret2;exact⟨rfl,⟨rfl,rfl,rfl,Nat.le_refl _,fun _ _=>rfl⟩⟩
end Ra
section
open Go.RowKit
def q4M(x y:Int):Int:=if x<y then -1 else if y<x then 1 else 0
theorem q8f(x y:Int):q4M x y=if x<y then -1 else if y<x then 1 else 0:=rfl
def q4L(a b:Int×Int):Int:=q4M a.1 b.1
def q7R(a b:Int×Int):Int:=if a.2=b.2 then q4L a b else q4M b.2 a.2
theorem z5K(x:Int)(w:World):Calls prog 136 #[J I x] w fun e w'=>e=.returned (J3 false)/\w=w':=by
 go_enter func136,ntmps136
 go_wp2;go_ret;exact⟨by simp,rfl⟩
theorem z9M(x y:Int)(w:World):Calls prog 88 #[J I x,J I y] w fun e w'=>e=.returned (J I (q4M x y))/\w=w':=by
 have a:=J6 (q8f x y);generalize q4M x y=r at *
 go_enter func88,ntmps88
 go_wp2_with (go_at_call 136;refine (z5K _ _).mono ?_;rintro e w1⟨rfl,rfl⟩)
 all_goals (go_ret;refine⟨?_,rfl⟩;have h:=a.out;first | (simp_all;done) | (simp_all;omega) | (rw[h,if_neg (by omega),if_neg (by omega)];rfl) | (rw[h,if_neg (by omega),if_pos (by omega)];rfl) | (rw[h,if_pos (by omega)];rfl))
theorem z4T(a b:Int×Int)(w:World):Calls prog 39 #[J4 #[J I a.1,J I a.2],J4 #[J I b.1,J I b.2]] w fun e w'=>e=.returned (J I (q4L a b))/\Bl w w':=by
 have c:=z9M a.1 b.1;unfold q4L;generalize q4M a.1 b.1=r at *
 go_enter func39,ntmps39
 go_wp2_with (go_at_call 88;refine (c _).mono ?_;rintro e w1⟨rfl,rfl⟩)
 go_ret;exact⟨rfl,(znw _ _).alloc (by simp) _⟩
theorem z9h(a b:Int×Int)(w:World):Calls prog 38 #[J4 #[J I a.1,J I a.2],J4 #[J I b.1,J I b.2]] w fun e w'=>e=.returned (J I (q7R a b))/\Bl w w':=by
 have c:=z9M b.2 a.2;have d:=fun w=>z4T a b w
 by_cases h:a.2=b.2
 ·have e:q7R a b=q4L a b:=if_pos h;rw[e];generalize q4L a b=r at *;have f:(a.2 != b.2)=false:=by simpa using h
  clear c;obtain⟨g,i⟩:=a;obtain⟨b1,b2⟩:=b;simp only at *;subst h
  go_enter func38,ntmps38
  go_wp2_with (go_at_call 39;refine (d _).mono ?_;rintro e w1⟨rfl,h1⟩)
  go_ret;exact⟨rfl,((znw _ _).alloc (by simp) _).trans (h1.mono (by simp;omega))⟩
 ·have e:q7R a b=q4M b.2 a.2:=if_neg h;rw[e];generalize q4M b.2 a.2=r at *;have f:(a.2 != b.2)=true:=by simpa using h
  go_enter func38,ntmps38
  go_wp2_with (go_at_call 88;refine (c _).mono ?_;rintro e w1⟨rfl,rfl⟩)
  go_ret;exact⟨rfl,(znw _ _).alloc (by simp) _⟩
theorem z5V{n:Int}(h0:-9223372036854775808<=n)(h1:n<9223372036854775808):IntKind.i64.wrap n=n:=by
 rw[IntKind.wrap_i64];omega
abbrev Pw:=Int×Int
def pz:Pw:=(0,0)
def swapAt(l:List Pw)(p:Nat):List Pw:=(l.set (p+1) (l.getD p pz)).set p (l.getD (p+1) pz)
def z5X(lt:Pw->Pw->Bool):Nat->List Pw->List Pw
 | 0,l=>l
 | p+1,l=>if lt (l.getD (p+1) pz) (l.getD p pz)=true then z5X lt p (swapAt l p) else l
def z1l(lt:Pw->Pw->Bool)(l:List Pw):Nat->List Pw
 | 0=>l
 | m+1=>z5X lt (m+1) (z1l lt l m)
def z1D(lt:Pw->Pw->Bool)(l:List Pw):List Pw:=z1l lt l (l.length - 1)
def ltV(a b:Pw):Bool:=decide (q4L a b<0)
def ltP(a b:Pw):Bool:=decide (q7R a b<0)
def z1w(w:World)(g:Nat)(l:List Pw):Prop:=∃ a,w.heap[g]?=some (J5 a 74 (0,0))/\∀ i x,l[i]?=some x->a[i * 2]?=some (J I x.1)/\a[i * 2+1]?=some (J I x.2)
theorem z2p(l:List Pw)(p:Nat):(swapAt l p).length=l.length:=by simp[swapAt]
theorem z6K(lt:Pw->Pw->Bool):∀ (j:Nat) (l:List Pw),(z5X lt j l).length=l.length
 | 0,_=>rfl
 | p+1,l=>by rw[z5X];split;rw[z6K lt p,z2p];rfl
theorem z1z(lt:Pw->Pw->Bool)(l:List Pw):∀ m,(z1l lt l m).length=l.length
 | 0=>rfl
 | m+1=>by rw[z1l,z6K,z1z lt l m]
structure z2g(g:Nat)(w w':World):Prop where
 os:w'.os=w.os
 tape:w'.tape=w.tape
 output:w'.output=w.output
 size:w.heap.size<=w'.heap.size
 block:∀ k,k<w.heap.size->k≠g->w'.heap[k]?=w.heap[k]?
theorem z2g.refl(g:Nat)(w:World):z2g g w w:=⟨rfl,rfl,rfl,Nat.le_refl _,fun _ _ _=>rfl⟩
theorem z2g.trans{g:Nat}{a b c:World}(h:z2g g a b)(k:z2g g b c):z2g g a c:=
 ⟨k.os.trans h.os,k.tape.trans h.tape,k.output.trans h.output,Nat.le_trans h.size k.size,fun i d e=>(k.block i (Nat.lt_of_lt_of_le d h.size) e).trans (h.block i d e)⟩
theorem z2g.of_below{g:Nat}{a b:World}(h:Bl a b):z2g g a b:=⟨h.os,h.tape,h.output,h.size,fun k c _=>h.block k c⟩
theorem z2g.set{g:Nat}{w w':World}(h:z2g g w w')(o:Nat)(v:Value):z2g g w (w'.setCell ⟨g,o,none⟩ v):=
 ⟨h.os,h.tape,h.output,(by simp[World.setCell];exact h.size),fun k b a=>(Below.heap_setCell _ _ _ _ a).trans (h.block k b a)⟩
theorem z2g.drew{g:Nat}{w w':World}(h:z2g g w w'):z2g g w w'.drew:=⟨h.os,h.tape,h.output,h.size,h.block⟩
theorem z2g.drewN{g:Nat}{w w':World}(h:z2g g w w')(n:Nat):z2g g w (w'.drewN n):=⟨h.os,h.tape,h.output,h.size,h.block⟩
theorem z2g.below{g B:Nat}{w w':World}(h:z2g g w w')(a:B<=g)(b:B<=w.heap.size):Below B w w':=⟨h.os,h.tape,h.output,h.size,fun k c=>h.block k (by omega) (by omega)⟩
theorem z1w.later{w w':World}{g:Nat}{l:List Pw}(h:z1w w g l)(c:Bl w w'):z1w w' g l:=by
 obtain⟨a,b,d⟩:=h;exact⟨a,(c.block g (Array.getElem?_eq_some_iff.1 b).1).trans b,d⟩
theorem z1w.cell{w:World}{g:Nat}{l:List Pw}(h:z1w w g l){i:Nat}(a:i<l.length):w.cell? ⟨g,i * 2,none⟩=some (J I (l.getD i pz).1)/\w.cell? ⟨g,i * 2+1,none⟩=some (J I (l.getD i pz).2):=by
 obtain⟨b,c,d⟩:=h;have e:l[i]?=some (l.getD i pz):=by simp[List.getD,a]
 obtain⟨h1,h2⟩:=d i _ e;simp only[World.cell?,c]
 simp[h1,h2]
theorem z1w.free{w:World}{g:Nat}{l:List Pw}(h:z1w w g l)(o:Nat):w.frozen? ⟨g,o,none⟩=false:=by
 obtain⟨a,b,_⟩:=h
 simp[World.frozen?,b]
theorem z1w.lt{w:World}{g:Nat}{l:List Pw}(h:z1w w g l):g<w.heap.size:=by
 obtain⟨a,b,_⟩:=h;exact (Array.getElem?_eq_some_iff.1 b).1
theorem z1w.put{w:World}{g:Nat}{l:List Pw}(h:z1w w g l){i:Nat}(c:i<l.length)(x:Pw):z1w ((w.setCell ⟨g,i * 2,none⟩ (J I x.1)).setCell ⟨g,i * 2+1,none⟩ (J I x.2)) g (l.set i x):=by
 have f:=h.cell c;obtain⟨a,k,d⟩:=h
 have m:i * 2<a.size:=by
  have:=(d i _ (List.getElem?_eq_getElem c)).1;exact (Array.getElem?_eq_some_iff.1 this).1
 have n:i * 2+1<a.size:=by
  have:=(d i _ (List.getElem?_eq_getElem c)).2;exact (Array.getElem?_eq_some_iff.1 this).1
 refine⟨(a.setIfInBounds (i * 2) (J I x.1)).setIfInBounds (i * 2+1) (J I x.2),?_,fun j y b=>?_⟩
 ·simp[World.setCell,Array.getElem?_modify,k]
 ·rw[List.getElem?_set]at b
  by_cases e:i=j
  ·subst e;rw[if_pos rfl,if_pos c]at b
   simp at b
   subst b
   simp[m,n]
  ·rw[if_neg e]at b;obtain⟨h1,h2⟩:=d j y b;simp only[Array.getElem?_setIfInBounds];rw[if_neg (by omega),if_neg (by omega),if_neg (by omega),if_neg (by omega)]
   exact⟨h1,h2⟩
end
namespace Mt
open Go.RowKit
def I64(a:Int):Prop:=-9223372036854775808<=a/\a<=9223372036854775807
def alw(a:Int):Int:=if a<5 then 1 else a / 5
theorem j0I(a:Int):1<=alw a:=by unfold alw;split <;> omega
theorem z0m(w:World)(o:Obj):Bl w (w.alloc o):=znw _ o
theorem z0N{w w1 a:World}(h:Bl w w1)(k:Bl w1 a):Bl w a:=zbt h k
theorem j0X{a:Int}(h:I64 a)(b:5<=a):wrap64 (a.tdiv 5)=a / 5:=by
 unfold I64 at h;rw[Int.tdiv_eq_ediv_of_nonneg (by omega)]
 unfold wrap64;omega
theorem j0o{a:Int}(h:I64 a)(b:a<5):∃ q,wrap64 (a.tdiv 5)=q/\q<1:=by
 refine⟨_,rfl,?_⟩;unfold I64 at h
 by_cases h0:0<=a
 ·rw[Int.tdiv_eq_ediv_of_nonneg (by omega)]
  unfold wrap64;omega
 ·have e:a.tdiv 5=-((-a) / 5):=by
   rw[show a=-(-a) by omega,Int.neg_tdiv,Int.tdiv_eq_ediv_of_nonneg (by omega)]
   simp
  rw[e];unfold wrap64;omega
theorem q7z(a:Int)(h:I64 a)(w:World):Calls prog 109 #[J I a] w fun e w'=>e=.returned (J I (alw a))/\w=w':=by
 by_cases b:a<5
 ·obtain⟨q,hq,c⟩:=j0o h b;rw[show alw a=1 from if_pos b];clear b h
  go_enter func109,ntmps109
  go_wp2;go_ret;exact⟨rfl,rfl⟩
 ·have hq:=j0X h (by omega)
  rw[show alw a=a / 5 from if_neg b];have c:1<=a / 5:=by omega
  generalize a / 5=q at *;clear b h
  go_enter func109,ntmps109
  go_wp2;go_ret;exact⟨rfl,rfl⟩
theorem q4W(a:Int)(h:I64 a)(w:World):Calls prog 139 #[J I a] w fun e w'=>e=.returned (J I (alw a))/\w=w':=by
 by_cases b:a<5
 ·rw[show alw a=1 from if_pos b]
  go_enter func139,ntmps139
  go_wp2;go_ret;exact⟨rfl,rfl⟩
 ·have hq:=j0X h (by omega)
  rw[show alw a=a / 5 from if_neg b];generalize a / 5=q at *
  go_enter func139,ntmps139
  go_wp2;go_ret;exact⟨rfl,rfl⟩
def MAt(w:World)(b:Nat)(l n:Int):Prop:=w.heap[b]?=some (J5 #[J I l,J I n] 44)
section
variable {w w':World} {b B:Nat} {l n:Int}
theorem MAt.later(h:MAt w b l n)(a:Below B w w')(c:b<B):MAt w' b l n:=(a.block b c).trans h
theorem MAt.new(w:World)(l n:Int):MAt (w.alloc (J5 #[J I l,J I n] 44)) w.heap.size l n:=heap_alloc_new _ _
theorem MAt.new2(w:World)(o:Obj)(l n:Int):MAt ((w.alloc o).alloc (J5 #[J I l,J I n] 44)) (w.heap.size+1) l n:=by
 have:=MAt.new (w.alloc o) l n
 rwa [show (w.alloc o).heap.size=w.heap.size+1 by simp]at this
theorem MAt.lt(h:MAt w b l n):b<w.heap.size:=(Array.getElem?_eq_some_iff.1 h).1
theorem MAt.facts(h:MAt w b l n):(w.cell? ⟨b,0,none⟩=some (J I l)/\w.cell? ⟨b,1,none⟩=some (J I n))/\(w.frozen? ⟨b,0,none⟩=false/\w.frozen? ⟨b,1,none⟩=false):=by
 unfold MAt at h
 simp[World.cell?,World.frozen?,h]
theorem MAt.set(h:MAt w b l n)(a c:Int):MAt ((w.setCell ⟨b,0,none⟩ (J I a)).setCell ⟨b,1,none⟩ (J I c)) b a c:=by
 unfold MAt at *
 simp[World.setCell,Array.getElem?_modify,h]
end
theorem z2J{f:Func}{p:Tmp}(a:f.results=#[.cell p 44]){w wq:World}{g:Nat}{l n:Int}(R:MAt wq g l n)(H:Bl w wq)(act:Act)(c:act.tmps.getD p undef=J2 (some ⟨g,0,none⟩))(hd:act.defers=[]) :
  bodyPost prog f (fun e w'=>e=.returned (J4 #[J I l,J I n])/\Bl w w') Exit.ret act wq:=by
 obtain⟨⟨d,u1⟩,-⟩:=R.facts;have b:act.tmps[p]?.getD undef=J2 (some ⟨g,0,none⟩):=by simpa using c
 exact bodyPost_ret (v:=J4 #[J I l,J I n]) (by simp[results,a,go_sem,b,d,u1]) hd ⟨rfl,H⟩
theorem z3B{f:Func}{p q:Tmp}(a:f.results=#[.cell p 44,.tmp q]){w wq:World}{g:Nat}{l n:Int}{t:Bool}(R:MAt wq g l n)(H:Bl w wq)(act:Act)(d:act.tmps.getD p undef=J2 (some ⟨g,0,none⟩))(h:act.tmps.getD q undef=J3 t)(hd:act.defers=[]) :
  bodyPost prog f (fun e w'=>e=.returned (.tuple #[J4 #[J I l,J I n],J3 t])/\Bl w w') Exit.ret act wq:=by
 obtain⟨⟨i,u1⟩,-⟩:=R.facts;have b:act.tmps[p]?.getD undef=J2 (some ⟨g,0,none⟩):=by simpa using d
 have c:act.tmps[q]?.getD undef=J3 t:=by simpa using h
 exact bodyPost_ret (v:=.tuple #[J4 #[J I l,J I n],J3 t]) (by simp[results,a,go_sem,b,c,i,u1]) hd ⟨rfl,H⟩
theorem z3m(w:World)(o p:Obj):Bl w ((w.alloc o).alloc p):=(z0m w o).alloc (by simp) p
theorem z9Y(a t:Int)(h:I64 a)(w:World):Calls prog 66 #[J I a,J I t] w fun e w'=>e=.returned (J4 #[J I (alw a),J I (wrap64 (t+10))])/\Bl w w':=by
 have b:=q7z a h;generalize alw a=A at *
 go_enter func66,ntmps66
 go_wp2_with (go_at_call 109;refine (b _).mono ?_;rintro e c⟨rfl,rfl⟩)
 exact z2J results66 (MAt.new _ _ _) (z0m w _) _ rfl rfl
theorem q4j(a t:Int)(h:I64 a)(w:World):Calls prog 95 #[J I a,J I t] w fun e w'=>e=.returned (J4 #[J I (alw a),J I (wrap64 (t+10))])/\Bl w w':=by
 have b:=q4W a h;generalize alw a=A at *
 go_enter func95,ntmps95
 go_wp2_with (go_at_call 139;refine (b _).mono ?_;rintro e c⟨rfl,rfl⟩)
 exact z2J results95 (MAt.new _ _ _) (z0m w _) _ rfl rfl
theorem q2P(l n a t:Int)(h:I64 a)(w:World):Calls prog 28 #[J4 #[J I l,J I n],J I a,J I t] w fun e w'=>e=.returned (J4 #[J I (if t<n then l else alw a),J I (if t<n then n else wrap64 (t+10))])/\Bl w w':=by
 have f:=z9Y a t h;generalize alw a=A at *;generalize wrap64 (t+10)=T at *
 by_cases b:t<n
 ·rw[if_pos b,if_pos b]
  go_enter func28,ntmps28
  go_wp2;exact z2J results28 (MAt.new2 _ _ _ _) (z3m w _ _) _ rfl rfl
 ·rw[if_neg b,if_neg b];have R:=MAt.new2 w (J5 #[J I l,J I n] 44) 0 0;have B:=z3m w (J5 #[J I l,J I n] 44) (J5 #[J I 0,J I 0] 44)
  go_enter func28,ntmps28
  go_upto_region 3 with fail
  generalize ((w.alloc (J5 #[J I l,J I n] 44)).alloc (J5 #[J I 0,J I 0] 44))=w1 at *
  go_wp2_with (go_at_call 66;refine (f _).mono ?_;rintro e g⟨rfl,c⟩;have d:=R.later c R.lt;obtain⟨⟨c0,c1⟩,⟨f0,f1⟩⟩:=d.facts)
  exact z2J results28 (d.set _ _) (((z0N B c).setCell (Nat.le_succ _) _).setCell (Nat.le_succ _) _) _ rfl rfl
theorem q0G(l n a t:Int)(h:I64 a)(w:World):Calls prog 46 #[J4 #[J I l,J I n],J I a,J I t] w fun e w'=>e=.returned (J4 #[J I (if t<n then l else alw a),J I (if t<n then n else wrap64 (t+10))])/\Bl w w':=by
 have f:=q4j a t h;generalize alw a=A at *;generalize wrap64 (t+10)=T at *
 by_cases b:t<n
 ·rw[if_pos b,if_pos b]
  go_enter func46,ntmps46
  go_wp2;exact z2J results46 (MAt.new2 _ _ _ _) (z3m w _ _) _ rfl rfl
 ·rw[if_neg b,if_neg b];have R:=MAt.new2 w (J5 #[J I l,J I n] 44) 0 0;have B:=z3m w (J5 #[J I l,J I n] 44) (J5 #[J I 0,J I 0] 44)
  go_enter func46,ntmps46
  go_upto_region 3 with fail
  generalize ((w.alloc (J5 #[J I l,J I n] 44)).alloc (J5 #[J I 0,J I 0] 44))=w1 at *
  go_wp2_with (go_at_call 95;refine (f _).mono ?_;rintro e g⟨rfl,c⟩;have d:=R.later c R.lt;obtain⟨⟨c0,c1⟩,⟨f0,f1⟩⟩:=d.facts)
  exact z2J results46 (d.set _ _) (((z0N B c).setCell (Nat.le_succ _) _).setCell (Nat.le_succ _) _) _ rfl rfl
theorem q3X(l n a:Int)(w:World):Calls prog 147 #[J4 #[J I l,J I n],J I a] w fun e w'=>e=.returned (.tuple #[J4 #[J I (if l<1 then l else wrap64 (l - a)),J I n],J3 (if l<1 then false else true)])/\Bl w w':=by
 by_cases b:l<1
 ·rw[if_pos b,if_pos b]
  go_enter func147,ntmps147
  go_wp2;exact z3B results147 (MAt.new2 _ _ _ _) (z3m w _ _) _ rfl rfl rfl
 ·rw[if_neg b,if_neg b]
  go_enter func147,ntmps147
  go_wp2;exact z3B results147 (MAt.new2 _ _ _ _) (z3m w _ _) _ rfl rfl rfl
theorem q1L(l n a:Int)(w:World):Calls prog 99 #[J4 #[J I l,J I n],J I a] w fun e w'=>e=.returned (.tuple #[J4 #[J I (if l<1 then l else wrap64 (l - a)),J I n],J3 (if l<1 then false else true)])/\Bl w w':=by
 by_cases b:l<1
 ·rw[if_pos b,if_pos b]
  go_enter func99,ntmps99
  go_wp2;exact z3B results99 (MAt.new2 _ _ _ _) (z3m w _ _) _ rfl rfl rfl
 ·rw[if_neg b,if_neg b]
  go_enter func99,ntmps99
  go_wp2;exact z3B results99 (MAt.new2 _ _ _ _) (z3m w _ _) _ rfl rfl rfl
end Mt
section
open Go.ChangeShapes Go.WideShapes Go.ChangeAt Go.RowKit Go.Deep
theorem chunks{α:Type}(k:Nat):∀ (n:Nat) (l:List α),l.length=n * k->l=(List.range n).flatMap fun i=>(l.drop (i * k)).take k
 | 0,l,h=>by simp at h;subst h;rfl
 | n+1,l,h=>by
  rw[List.range_succ,List.flatMap_append];have c:(n+1) * k=n * k+k:=Nat.succ_mul n k;have h1:=chunks k n (l.take (n * k)) (by rw[List.length_take];omega)
  have h2:((List.range n).flatMap fun i=>((l.take (n * k)).drop (i * k)).take k)=(List.range n).flatMap fun i=>(l.drop (i * k)).take k:=by
   refine flatMap_congr_range fun i a=>?_;have b:i * k+k<=n * k:=by rw[<- Nat.succ_mul];exact Nat.mul_le_mul_right k a
   rw[List.drop_take,List.take_take,Nat.min_eq_left (by omega)]
  rw[<- h2,<- h1];simp only[List.flatMap_cons,List.flatMap_nil,List.append_nil];rw[List.take_of_length_le (l:=l.drop (n * k)) (by rw[List.length_drop];omega),List.take_append_drop]
theorem z6V{β:Type}{p:Nat->β->Prop}(d:β){n:Nat}(h:∀ i,i<n->∃ y,p i y):∃ f:Nat->β,∀ i,i<n->p i (f i):=by
 refine⟨fun i=>if a:i<n then Classical.choose (h i a) else d,fun i a=>?_⟩;simp only[dif_pos a];exact Classical.choose_spec (h i a)
section
variable {H:Type} {enc:TypeId×Value->H} {W:World}
theorem open_arr{β:Type}(d:β)(f:β->List Value){t e:TypeId}{n a:Nat}{cs:List Value}{x:DataW H×List MemPlace}(c:prog.underlying t=some (.array n e))(j:prog.cellsOf t=n * prog.cellsOf e)
  (h:DataW.trod enc prog W 0 (fun _=>true) true a t cs=some x)
  (k:∀ {m:Nat} {l:List Value} {y:DataW H×List MemPlace},DataW.trod enc prog W 0 (fun _=>true) true m e l=some y->∃ b,l=f b):∃ g:Nat->β,cs=(List.range n).flatMap fun i=>f (g i):=by
 obtain⟨u,m,_,_,hl,o,q⟩:=DataW.trod_array c h
 obtain⟨g,r⟩:=z6V (n:=n) (p:=fun i b=>(cs.drop (i * prog.cellsOf e)).take (prog.cellsOf e)=f b) d (fun i s=>by
  have:=q i s;rw[List.getElem?_eq_getElem (by omega)]at this
  exact k this)
 refine⟨g,?_⟩;rw[chunks (prog.cellsOf e) n cs (by rw[hl,j])]
 exact flatMap_congr_range r
theorem z0P{m:Nat}{l:List Value}{y:DataW H×List MemPlace}(h:DataW.trod enc prog W 0 (fun _=>true) true m 3 l=some y):∃ b:Int,l=[.int .i64 b]:=by
 obtain⟨q,e,_⟩:=DataW.trod_int underlying3 h;exact⟨q,e⟩
theorem z6m{m:Nat}{l:List Value}{y:DataW H×List MemPlace}(h:DataW.trod enc prog W 0 (fun _=>true) true m 4 l=some y):∃ b:Bool,l=[J3 b]:=by
 obtain⟨q,e,_⟩:=DataW.trod_bool underlying4 h;exact⟨q,e⟩
theorem cI:prog.cellsOf 3=1:=by kernel_rfl
theorem cT:prog.cellsOf 4=1:=by kernel_rfl
end
end
end Go.Proofs.YtjghbciepinofaaGreat
