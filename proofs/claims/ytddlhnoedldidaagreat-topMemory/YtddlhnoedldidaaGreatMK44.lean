/- Parts of the proof. -/
import Derived.Test.YtddlhnoedldidaaGreatML
import Derived.Test.YtddlhnoedldidaaGreatMK34
import Derived.Test.YtddlhnoedldidaaGreatMK37
import Derived.Deep.DeepCutAuto
import Derived.OneCell
import Derived.OwnWalk
import Derived.Deep.OwnRows
import Derived.WideShapes
import Derived.Deep.AppendLies
import Derived.ChangeKeysEq
import Derived.Laws.Cover3
import Derived.Deep.RegionHeld3
import Derived.Deep.RegionWith
set_option maxRecDepth 100000
set_option maxHeartbeats 16000000
namespace Go.Proofs.YtddlhnoedldidaaGreat
open Go.Proofs.Tryz
open Value renaming int->J,slice->J1,pointer->J2,bool->J3,agg->J4
open IntKind renaming i64->I
open Obj renaming cells->J5
section
open Go.RowKit
def spl(cs:Array Value):Nat->List Value->Array Value
 | _,[]=>cs
 | o,v :: r=>spl (cs.setIfInBounds o v) (o+1) r
theorem q2i:∀ (a:List Value) (cs:Array Value) (o i:Nat),o+a.length<=cs.size->(spl cs o a)[i]?=if o<=i/\i<o+a.length then a[i - o]? else cs[i]?
 | [],cs,o,i,_=>by simp[spl];intro h1 h2;omega
 | v :: r,cs,o,i,h=>by
  simp only[List.length_cons]at h;rw[spl,q2i r _ (o+1) i (by simp;omega)]
  by_cases e:i=o
  ·subst e;have:i<cs.size:=by omega
   simp[this]
   intro h1;omega
  ·by_cases h1:o+1<=i/\i<o+1+r.length
   ·rw[if_pos h1,if_pos ⟨by omega,by simp;omega⟩]
    obtain⟨j,rfl⟩:∃ j,i=o+1+j:=⟨i - (o+1),by omega⟩
    rw[show o+1+j - (o+1)=j by omega,show o+1+j - o=j+1 by omega]
    simp
   ·rw[if_neg h1,if_neg (by simp;omega),Array.getElem?_setIfInBounds_ne (by omega)]
theorem q9m{cs ds:Array Value}(h:ds.size=cs.size):spl cs 0 ds.toList=ds:=by
 apply Array.ext_getElem?;intro i;rw[q2i _ _ _ _ (by simp;omega)]
 by_cases a:i<ds.size
 ·rw[if_pos ⟨by omega,by simp;omega⟩];simp
 ·rw[if_neg (by simp;omega),Array.getElem?_eq_none (by omega),Array.getElem?_eq_none (by omega)]
theorem z0a{B b:Nat}{a:World}(c:B<=b):∀ (d:List Value) (o:Nat) (w:World),Below B a w->Below B a (w.setCells b o d)
 | [],_,_,h=>h
 | v :: r,o,_,h=>z0a c r (o+1) _ (h.setCell c v)
theorem z0M{b k:Nat}(a:k≠b):∀ (c:List Value) (o:Nat) (w:World),(w.setCells b o c).heap[k]?=w.heap[k]?
 | [],_,_=>rfl
 | _ :: r,o,_=>(z0M a r (o+1) _).trans (Below.heap_setCell _ _ _ _ a)
end
namespace Pv
open Go.RowKit
theorem J6{p:Prop}(h:p):Hid p:=h
def CAt(ty:TypeId)(w:World)(b:Nat)(cs:Array Value):Prop:=w.heap[b]?=some (J5 cs ty)
section
variable {ty:TypeId} {w w':World} {b B:Nat} {cs:Array Value}
theorem CAt.new(ty:TypeId)(w:World)(cs:Array Value):CAt ty (w.alloc (J5 cs ty)) w.heap.size cs:=heap_alloc_new _ _
theorem CAt.new2(ty:TypeId)(w:World)(o:Obj)(cs:Array Value):CAt ty ((w.alloc o).alloc (J5 cs ty)) (w.heap.size+1) cs:=by
 have h:=CAt.new ty (w.alloc o) cs
 rwa [show (w.alloc o).heap.size=w.heap.size+1 by simp]at h
theorem CAt.later(h:CAt ty w b cs)(hb:Below B w w')(a:b<B):CAt ty w' b cs:=(hb.block b a).trans h
theorem CAt.lt(h:CAt ty w b cs):b<w.heap.size:=(Array.getElem?_eq_some_iff.1 h).1
theorem CAt.over(h:CAt ty w b cs)(hb:Bl w w'):CAt ty w' b cs:=h.later hb h.lt
theorem CAt.alloc(h:CAt ty w b cs)(o:Obj):CAt ty (w.alloc o) b cs:=(Below.heap_alloc _ _ _ h.lt).trans h
theorem CAt.keep(h:CAt ty w b cs)(a:w'.heap[b]?=w.heap[b]?):CAt ty w' b cs:=a.trans h
theorem CAt.other{c o:Nat}(h:CAt ty w b cs)(hb:b≠c)(v:Value):CAt ty (w.setCell ⟨c,o,none⟩ v) b cs:=(Below.heap_setCell _ _ _ _ hb).trans h
theorem CAt.others{c o:Nat}(h:CAt ty w b cs)(hb:b≠c)(a:List Value):CAt ty (w.setCells c o a) b cs:=(z0M hb _ _ _).trans h
theorem CAt.cell(h:CAt ty w b cs)(o:Nat):w.cell? ⟨b,o,none⟩=cs[o]?:=by
 unfold CAt at h
 simp[World.cell?,h]
theorem CAt.free(h:CAt ty w b cs)(o:Nat):w.frozen? ⟨b,o,none⟩=false:=by
 unfold CAt at h
 simp[World.frozen?,h]
theorem CAt.set(h:CAt ty w b cs)(o:Nat)(v:Value):CAt ty (w.setCell ⟨b,o,none⟩ v) b (cs.setIfInBounds o v):=by
 unfold CAt at *
 simp[World.setCell,Array.getElem?_modify,h]
theorem CAt.range(h:CAt ty w b cs):w.rangeAt b 0 cs.toList:=by
 intro j v a;rw[Nat.zero_add,h.cell]
 simpa using a
theorem CAt.part(h:CAt ty w b cs){o:Nat}{ds:List Value}(hd:∀ j v,ds[j]?=some v->cs[o+j]?=some v):w.rangeAt b o ds:=by
 intro j v a;rw[h.cell];exact hd j v a
theorem CAt.there(h:CAt ty w b cs)(o n:Nat)(a:o+n<=cs.size):w.there b o n:=by
 intro j c;rw[h.cell,h.free];have:o+j<cs.size:=by omega
 simp[this]
theorem CAt.sets:∀ (a:List Value) (o:Nat) (w:World) (cs:Array Value),CAt ty w b cs->CAt ty (w.setCells b o a) b (spl cs o a)
 | [],_,_,_,h=>h
 | v :: r,o,_,_,h=>CAt.sets r (o+1) _ _ (h.set o v)
theorem CAt.z0t{ds:Array Value}(h:CAt ty w b cs)(hd:ds.size=cs.size):CAt ty (w.setCells b 0 ds.toList) b ds:=by
 have:=CAt.sets ds.toList 0 w cs h
 rwa [q9m hd]at this
end
def Rep(P:Nat->Prop)(w:World)(v:Value)(sz bts:Nat)(cs:List Value):Prop:=
 ∃ (A:Option Addr) (n C:Nat),v=J1 A n C/\cs.length=n * sz/\n * bts<=140737488351232/\((A=none->C=0)/\n<=C) /\
  (0<n->∃ b off,A=some ⟨b,off,none⟩/\P b/\b<w.heap.size/\∀ j u,cs[j]?=some u->w.cell? ⟨b,off+j,none⟩=some u)
section
variable {P P':Nat->Prop} {w w':World} {v:Value} {sz bts:Nat} {cs:List Value}
theorem Rep.nil(P:Nat->Prop)(w:World)(sz bts:Nat):Rep P w (J1 none 0 0) sz bts []:=⟨none,0,0,rfl,by simp,by simp,⟨fun _=>rfl,Nat.le_refl _⟩,fun h=>absurd h (by omega)⟩
theorem Rep.mono(h:Rep P w v sz bts cs)(hp:∀ b,b<w.heap.size->P b->P' b):Rep P' w v sz bts cs:=by
 obtain⟨A,n,C,h1,h2,h3,c,d⟩:=h;refine⟨A,n,C,h1,h2,h3,c,fun h0=>?_⟩;obtain⟨b,off,e,f,a,g⟩:=d h0;exact⟨b,off,e,hp b a f,a,g⟩
theorem Rep.keep(h:Rep P w v sz bts cs)(g:∀ b,P b->b<w.heap.size->w'.heap[b]?=w.heap[b]?):Rep P w' v sz bts cs:=by
 obtain⟨A,n,C,h1,h2,h3,i,k⟩:=h;refine⟨A,n,C,h1,h2,h3,i,fun h0=>?_⟩;obtain⟨b,off,l,c,d,m⟩:=k h0
 have f:b<w'.heap.size:=by
  have e:=g b c d;rw[Array.getElem?_eq_getElem d]at e;exact (Array.getElem?_eq_some_iff.1 e).1
 refine⟨b,off,l,c,f,fun j u hu=>?_⟩;rw[<- m j u hu];exact World.cell?_of_block (w:=w) (a:=⟨b,off+j,none⟩) (g b c d)
theorem Rep.over(h:Rep P w v sz bts cs)(hb:Bl w w'):Rep P w' v sz bts cs:=h.keep fun b _ a=>hb.block b a
theorem Rep.open(h:Rep P w v sz bts cs){n:Nat}(d:cs.length=n * sz)(f:0<sz):∃ (A:Option Addr) (C:Nat),v=J1 A n C/\n * bts<=140737488351232/\(A=none->n=0/\C=0)/\(0<n->∃ b off,A=some ⟨b,off,none⟩/\P b/\b<w.heap.size/\∀ j u,cs[j]?=some u->w.cell? ⟨b,off+j,none⟩=some u)/\(∀ ad,A=some ad->∀ j u,cs[j]?=some u->w.cell? (ad.add j)=some u):=by
 obtain⟨A,m,C,h1,h2,h3,g,a⟩:=h;have e:m=n:=Nat.eq_of_mul_eq_mul_right f (h2.symm.trans d);subst e;refine⟨A,C,h1,h3,fun e=>⟨?_,g.1 e⟩,a,fun ad e j u hu=>?_⟩
 ·rcases Nat.eq_zero_or_pos m with h0 | h0
  ·exact h0
  ·obtain⟨b,off,c,_⟩:=a h0;rw[c]at e;cases e
 ·rcases Nat.eq_zero_or_pos m with h0 | h0
  ·subst h0;have:=(List.getElem?_eq_some_iff.1 hu).1;omega
  ·obtain⟨b,off,c,_,_,i⟩:=a h0;rw[c]at e;cases e;rw[Addr.add_lit];exact i j u hu
theorem Rep.room(h:Rep P w v sz bts cs){A:Option Addr}{n C:Nat}(b:v=J1 A n C):n<=C/\(A=none->C=0):=by
 obtain⟨A',c,C',h1,_,_,a,_⟩:=h;rw[b]at h1;cases h1;exact⟨a.2,a.1⟩
theorem Rep.own{base n:Nat}{e:TypeId}(h:w.ownsRow base e sz v n cs)(hb:n * bts<=140737488351232):Rep (fun b=>base<=b) w v sz bts cs:=by
 rcases h.2 with⟨hv,hn⟩ | ⟨g,cap,cur,hv,h1,h2,h3,_⟩
 ·exact⟨none,0,0,hv,by rw[h.1,hn],by omega,⟨fun _=>rfl,Nat.le_refl _⟩,fun h=>absurd h (by omega)⟩
 ·subst hv;refine⟨_,n,cap,rfl,h.1,hb,⟨fun h=>(by cases h),h3⟩,fun _=>⟨g,0,rfl,h1,(Array.getElem?_eq_some_iff.1 h2).1,fun j u hu=>?_⟩⟩
  have:=World.ownsRow.cells h (g:=g) rfl j u hu
  rwa [Addr.add_lit]at this
end
def pwC(l:List (Int×Int)):List Value:=l.flatMap fun x=>[J I x.1,J I x.2]
def inC(l:List Int):List Value:=l.map (.int .i64)
def txC(l:List ByteArray):List Value:=l.map .string
theorem z0c:∀ l:List (Int×Int),(pwC l).length=l.length * 2
 | []=>rfl
 | x :: l=>by show (_ ++ pwC l).length=_;rw[List.length_append,z0c l,List.length_cons];simp;omega
theorem z0h(l:List Int):(inC l).length=l.length * 1:=by simp[inC]
theorem z0V(l:List ByteArray):(txC l).length=l.length * 1:=by simp[txC]
theorem z1U:∀ (l:List (Int×Int)) (i:Nat),i<l.length->(pwC l)[i * 2]?=some (J I (l.getD i (0,0)).1)/\(pwC l)[i * 2+1]?=some (J I (l.getD i (0,0)).2)
 | [],i,h=>absurd h (by simp)
 | x :: l,0,_=>⟨rfl,rfl⟩
 | x :: l,i+1,h=>by
  have:=z1U l i (by simpa using h)
  rw[show (i+1) * 2=i * 2+2 by omega]
  exact this
theorem z3J(l:List Int)(i:Nat)(h:i<l.length):(inC l)[i]?=some (J I (l.getD i 0)):=by simp[inC,List.getD,h]
theorem z7z(l:List ByteArray)(i:Nat)(h:i<l.length):(txC l)[i]?=some (.string (l.getD i ByteArray.empty)):=by simp[txC,List.getD,h]
theorem z2X(l:List (Int×Int)):∀ u∈pwC l,u.oneCell'=true:=fun u hu=>by
 simp only[pwC,List.mem_flatMap,List.mem_cons,List.not_mem_nil,or_false]at hu;obtain⟨x,_,rfl | rfl⟩:=hu <;> rfl
structure Pkt where
 k:Int
 i:Int
 v:Int
 n:Int
 S:List (Int×Int)
 D:List Int
def q2V:List Nat->Code->Code
 | [],c=>c
 | 0 :: p,.seq a _=>q2V p a
 | 1 :: p,.seq _ b=>q2V p b
 | _ :: p,.block _ c=>q2V p c
 | _ :: p,.loop c=>q2V p c
 | 1 :: p,.cond _ a _=>q2V p a
 | 2 :: p,.cond _ _ b=>q2V p b
 | _,_=>.skip
end Pv
namespace Ln
open Go.RowKit
structure Line where
 S:List ByteArray
 D:List Int
 g:Int
 cl:Bool
def z1d(w:World)(b off:Nat)(l:List Int):Prop:=∀ i,i<l.length->w.cell? ⟨b,off+i,none⟩=some (J I (l.getD i 0))
def z3m(w:World)(b off:Nat)(l:List ByteArray):Prop:=∀ i,i<l.length->w.cell? ⟨b,off+i,none⟩=some (.string (l.getD i ByteArray.empty))
theorem z1d.z4k{B:Nat}{w w':World}{b off:Nat}{l:List Int}(h:z1d w b off l)(hb:Below B w w')(a:0<l.length->b<B):z1d w' b off l:=fun i c =>
 (hb.cell (p:=⟨b,off+i,none⟩) (a (by omega))).trans (h i c)
theorem z3m.z4k{B:Nat}{w w':World}{b off:Nat}{l:List ByteArray}(h:z3m w b off l)(hb:Below B w w')(a:0<l.length->b<B):z3m w' b off l:=fun i c =>
 (hb.cell (p:=⟨b,off+i,none⟩) (a (by omega))).trans (h i c)
theorem z1d.later{w w':World}{b off:Nat}{l:List Int}(h:z1d w b off l)(hb:Bl w w'):z1d w' b off l:=fun i a =>
 (hb.cell (p:=⟨b,off+i,none⟩) (World.block_lt_of_cell? w _ (h i a))).trans (h i a)
theorem z3m.later{w w':World}{b off:Nat}{l:List ByteArray}(h:z3m w b off l)(hb:Bl w w'):z3m w' b off l:=fun i a =>
 (hb.cell (p:=⟨b,off+i,none⟩) (World.block_lt_of_cell? w _ (h i a))).trans (h i a)
structure LAt(w:World)(x:Line)(sa da:Option Addr)(cs cd sb so db dO:Nat):Prop where
 hls:x.S.length * 16<=140737488351232
 hld:x.D.length * 8<=140737488351232
 hsa:0<x.S.length->sa=some ⟨sb,so,none⟩
 hda:0<x.D.length->da=some ⟨db,dO,none⟩
 ncs:sa=none->cs=0
 ncd:da=none->cd=0
 PS:z3m w sb so x.S
 PD:z1d w db dO x.D
theorem LAt.later{w w':World}{x:Line}{sa da:Option Addr}{cs cd sb so db dO:Nat}(h:LAt w x sa da cs cd sb so db dO)(hb:Bl w w'):LAt w' x sa da cs cd sb so db dO:=
 ⟨h.hls,h.hld,h.hsa,h.hda,h.ncs,h.ncd,h.PS.later hb,h.PD.later hb⟩
theorem LAt.ltS{w:World}{x:Line}{sa da:Option Addr}{cs cd sb so db dO:Nat}(h:LAt w x sa da cs cd sb so db dO)(h0:0<x.S.length):sb<w.heap.size:=World.block_lt_of_cell? w _ (h.PS 0 h0)
theorem LAt.ltD{w:World}{x:Line}{sa da:Option Addr}{cs cd sb so db dO:Nat}(h:LAt w x sa da cs cd sb so db dO)(h0:0<x.D.length):db<w.heap.size:=World.block_lt_of_cell? w _ (h.PD 0 h0)
theorem LAt.z4k{B:Nat}{w w':World}{x:Line}{sa da:Option Addr}{cs cd sb so db dO:Nat}(h:LAt w x sa da cs cd sb so db dO)(hb:Below B w w')(a:0<x.S.length->sb<B)(b:0<x.D.length->db<B):LAt w' x sa da cs cd sb so db dO:=
 ⟨h.hls,h.hld,h.hsa,h.hda,h.ncs,h.ncd,h.PS.z4k hb a,h.PD.z4k hb b⟩
theorem J6{p:Prop}(h:p):Hid p:=h
theorem z0u(w:World)(o:Obj):Bl w (w.alloc o):=znw _ o
theorem z2x{w w':World}{o:Obj}(h:Below (w.alloc o).heap.size (w.alloc o) w'):Bl w w':=
 (z0u w o).trans (h.mono (by simp))
theorem z1N{w w1 a:World}(h:Bl w w1)(k:Bl w1 a):Bl w a:=zbt h k
theorem q4r{W w1:World}(hb:Bl W w1):(∀ b o,b<W.heap.size->w1.cell? ⟨b,o,none⟩=W.cell? ⟨b,o,none⟩)/\(∀ b o,b<W.heap.size->w1.frozen? ⟨b,o,none⟩=W.frozen? ⟨b,o,none⟩):=
 ⟨fun b o h=>hb.cell (p:=⟨b,o,none⟩) h,fun b o h=>hb.frozen (p:=⟨b,o,none⟩) h⟩
theorem j6m{a b:ByteArray}(h:a≠b):(a.toList == b.toList)=false:=by
 rw[ByteArray.toList_eq,ByteArray.toList_eq]
 simpa using fun h2:a.data.toList=b.data.toList=>h (WideShapes.bytes_inj h2)
def nonneg(l:List Int):Bool:=l.all fun d=>decide (0<=d)
theorem q2e{l:List Int}{k:Nat}(h:nonneg (l.take k)=true)(a:k<l.length)(hd:0<=l.getD k 0):nonneg (l.take (k+1))=true:=by
 rw[List.take_succ_eq_append_getElem a]
 simp[List.getD,a]at hd
 unfold nonneg at *;rw[List.all_append,h]
 simp[hd]
theorem q4v{l:List Int}{k:Nat}(a:k<l.length)(hd:l.getD k 0<0):nonneg l=false:=by
 simp[List.getD,a]at hd
 simp only[nonneg,List.all_eq_false,decide_eq_true_eq];exact⟨l[k],List.getElem_mem a,by omega⟩
def z0Z(x:Line):Bool:=decide (x.D.length=x.S.length) && decide (x.S.length<=400) && nonneg x.D && decide (0<=x.g) && decide (x.g<=x.S.length)
def z4a(x:Line):Int:=if z0Z x=false then 2 else if x.cl=true then 11 else 0
def z6v(x:Line)(due:Int):Int:=if due<0 then 2 else if z4a x≠0 then z4a x else if 400<=x.S.length then 6 else 0
def z5K(x:Line)(s:ByteArray)(due:Int):Line:=if z6v x due=0 then ⟨x.S ++ [s],x.D ++ [due],x.g,x.cl⟩ else x
def z4p(x:Line)(k:Int)(s:ByteArray)(said now:Int):Int:=
 if z4a x≠0 then z4a x else if k≠x.g+1 then 10 else if said<k∨(x.S.length:Int)<k∨x.S.getD (k - 1).toNat ByteArray.empty≠s then 9
 else if x.D.getD (k - 1).toNat 0<=now then 12 else 0
def z7b(x:Line)(k:Int)(s:ByteArray)(said now:Int):Line:=if z4p x k s said now=0 then ⟨x.S,x.D,k,x.cl⟩ else x
def z5k(x:Line)(k time got:Int):Int:=
 if z4a x≠0 then z4a x else if k<1∨(x.S.length:Int)<k then 4 else if k<=got then 5 else if time<x.D.getD (k - 1).toNat 0 then 13 else 0
def z9O(x:Line)(k time got:Int):Line:=if z5k x k time got=0 then ⟨x.S,x.D,x.g,true⟩ else x
theorem z6W{x:Line}(h:z0Z x=true):x.D.length=x.S.length/\x.S.length<=400/\0<=x.g/\x.g<=x.S.length:=by
 simp[z0Z]at h
 omega
theorem z7q{x:Line}(h:z4a x=0):z0Z x=true/\x.cl=false:=by
 unfold z4a at h
 split at h
 ·omega
 split at h
 ·omega
 exact⟨by simpa using ‹¬ z0Z x=false›,by simpa using ‹¬ x.cl=true›⟩
theorem q2c(x:Line) :
  (x.D.length≠x.S.length/\z0Z x=false)∨(x.D.length=x.S.length/\400<x.S.length/\z0Z x=false) ∨
  (x.D.length=x.S.length/\x.S.length<=400/\(nonneg x.D=false->z0Z x=false)/\(nonneg x.D=true->z0Z x=(decide (0<=x.g) && decide (x.g<=x.S.length)))):=by
 by_cases h1:x.D.length=x.S.length
 ·right
  by_cases h2:x.S.length<=400
  ·right
   exact⟨h1,h2,fun h3=>by simp[z0Z,h3],fun h3=>by simp[z0Z,h1,h2,h3]⟩
  ·left
   exact⟨h1,by omega,by simp[z0Z,h2]⟩
 ·left
  exact⟨h1,by simp[z0Z,h1]⟩
theorem z0o(x:Line)(sa da:Option Addr)(cs cd sb so db dO:Nat)(w:World)(L:LAt w x sa da cs cd sb so db dO) :
  Calls prog 140 #[J4 #[J1 sa x.S.length cs,J1 da x.D.length cd,J I x.g,J3 x.cl]] w fun e w'=>e=.returned (J3 (z0Z x))/\Bl w w':=by
 obtain⟨S,D,g,cl⟩:=x;have l:=q2c ⟨S,D,g,cl⟩;obtain⟨hls,hld,hsa,hda,-,-,PS,PD⟩:=L;have a:Hid (∀ o,Bl w (w.alloc o)):=fun o=>z0u w o;have m:Hid (0<D.length->da=some ⟨db,dO,none⟩):=hda;have n:Hid (z1d w db dO D):=PD;clear hsa hda PS PD;dsimp only at *;generalize z0Z ⟨S,D,g,cl⟩=G at *
 rcases l with⟨h1,rfl⟩ | ⟨h1,h2,rfl⟩ | ⟨h1,h2,h3,h4⟩
 ·have d:((D.length:Int) != (S.length:Int))=true:=by simp;omega
  clear h1
  go_enter func140,ntmps140
  go_wp2;go_ret;exact⟨rfl,a.out _⟩
 ·have d:((D.length:Int) != (S.length:Int))=false:=by simp;omega
  clear h1
  go_enter func140,ntmps140
  go_wp2;go_ret;exact⟨rfl,a.out _⟩
 ·have d:((D.length:Int) != (S.length:Int))=false:=by simp;omega
  have u:D.length<=400:=by omega
  have r:Hid ((nonneg D=false->G=false)/\(nonneg D=true->G=(decide (0<=g) && decide (g<=S.length)))):=⟨h3,h4⟩;clear h1 h3 h4
  go_enter func140,ntmps140
  go_wp2
  go_loop [21] (fun i=>∃ (k:Nat),k<=D.length/\i=J I (k:Int)/\Hid (nonneg (D.take k)=true)) (fun i=>D.length - (intOf i).toNat)
  case atStart=>exact⟨0,Nat.zero_le _,rfl,by simp[Hid,nonneg]⟩
  case round =>
   obtain⟨k,v,rfl,s⟩:=hrel
   by_cases b:k<D.length
   ·have hcell:=(n.out.later (a.out (J5 #[J1 sa S.length cs,J1 da D.length cd,J I g,J3 cl] 48))) k b;obtain⟨y,p⟩:∃ y,D.getD k 0=y:=⟨_,rfl⟩;rw[p]at hcell;have t:Hid (D.getD k 0=y):=p;clear p;have e:=m.out (by omega)
    subst e
    by_cases q:y<0
    ·go_wp2;go_ret;exact⟨by rw[r.out.1 (q4v b (by rw[t.out];exact q))];rfl,a.out _⟩
    ·go_wp2
     go_round
     case rel=>exact⟨k+1,by omega,by go_num,q2e s.out b (by rw[t.out];omega)⟩
     case measure=>simp[intOf];omega
   ·have c:=r.out.2 (by have:=s.out;rwa [List.take_of_length_le (by omega)]at this)
    by_cases f:0<=g
    ·by_cases h:g<=(S.length:Int)
     ·have j:Hid (G=true):=by show _=_;rw[c];simp[f,h]
      clear c;go_wp2;go_ret;exact⟨by rw[j.out];rfl,a.out _⟩
     ·have j:Hid (G=false):=by show _=_;rw[c];simp[h]
      clear c;go_wp2;go_ret;exact⟨by rw[j.out];rfl,a.out _⟩
    ·have j:Hid (G=false):=by show _=_;rw[c];simp[f]
     clear c;go_wp2;go_ret;exact⟨by rw[j.out];rfl,a.out _⟩
theorem q1C(x:Line)(sa da:Option Addr)(cs cd sb so db dO:Nat)(w:World)(L:LAt w x sa da cs cd sb so db dO) :
  Calls prog 124 #[J4 #[J1 sa x.S.length cs,J1 da x.D.length cd,J I x.g,J3 x.cl]] w fun e w'=>e=.returned (J I (z4a x))/\Bl w w':=by
 have b:=z0o x sa da cs cd sb so db dO _ (L.later (z0u w (J5 #[J1 sa x.S.length cs,J1 da x.D.length cd,J I x.g,J3 x.cl] 48)));clear L;obtain⟨S,D,g,cl⟩:=x;unfold z4a;dsimp only at *;generalize z0Z ⟨S,D,g,cl⟩=G at *;cases G <;> cases cl
 all_goals go_enter func124,ntmps124
 all_goals go_wp2_with (go_at_call 140;refine b.mono ?_;rintro e w1⟨rfl,hb⟩;obtain⟨hc,c⟩:=q4r hb;have a:Hid (Bl w w1):=z2x hb;clear hb)
 all_goals go_ret
 all_goals exact⟨rfl,a.out⟩
theorem q9e(x:Line)(sa da:Option Addr)(cs cd:Nat)(k:Int)(w:World) :
  Calls prog 125 #[J4 #[J1 sa x.S.length cs,J1 da x.D.length cd,J I x.g,J3 x.cl],J I k] w fun e w'=>e=.returned (J3 (decide (1<=k) && decide (k<=x.S.length)))/\Bl w w':=by
 obtain⟨S,D,g,cl⟩:=x;dsimp only at *
 by_cases h1:1<=k
 ·by_cases h2:k<=(S.length:Int)
  ·rw[show (decide (1<=k) && decide (k<=(S.length:Int)))=true by simp[h1,h2]]
   go_enter func125,ntmps125
   go_wp2;go_ret;exact⟨rfl,z0u _ _⟩
  ·rw[show (decide (1<=k) && decide (k<=(S.length:Int)))=false by simp[h2]]
   go_enter func125,ntmps125
   go_wp2;go_ret;exact⟨rfl,z0u _ _⟩
 ·rw[show (decide (1<=k) && decide (k<=(S.length:Int)))=false by simp[h1]]
  go_enter func125,ntmps125
  go_wp2;go_ret;exact⟨rfl,z0u _ _⟩
theorem j4K:(prog.info? 9).map (fun i=>(i.zero,i.size,i.bytes))=some (some (.string ⟨#[]⟩),1,16):=by kernel_rfl
theorem j6r:(prog.info? 3).map (fun i=>(i.zero,i.size,i.bytes))=some (some (J I 0),1,8):=by kernel_rfl
theorem j0w{B:Nat}{w:World}{g n c e:Nat}{l:List ByteArray}(h:w.ownsRow B e 1 (J1 (some ⟨g,0,none⟩) n c) n (l.map .string)):B<=g/\g<w.heap.size/\z3m w g 0 l:=by
  rcases h.2 with⟨h1,_⟩ | ⟨g',cap,cur,hv,hb,hg,hn,hm,hs,ht⟩
  · cases h1
  · cases hv
    refine⟨hb,(Array.getElem?_eq_some_iff.1 hg).1,fun i a=>?_⟩;have b:l.length=n:=by have:=h.1;simpa using this
    have:(cur.toList.take (n * 1))[i]?=some (.string (l.getD i ByteArray.empty)):=by rw[ht];simp[List.getD,a]
    rw[List.getElem?_take_of_lt (by omega)]at this
    simp only[World.cell?,hg,Nat.zero_add]
    simpa using this
theorem j0Q{B:Nat}{w:World}{g n c e:Nat}{l:List Int}(h:w.ownsRow B e 1 (J1 (some ⟨g,0,none⟩) n c) n (l.map (.int .i64))):B<=g/\g<w.heap.size/\z1d w g 0 l:=by
  rcases h.2 with⟨h1,_⟩ | ⟨g',cap,cur,hv,hb,hg,hn,hm,hs,ht⟩
  · cases h1
  · cases hv
    refine⟨hb,(Array.getElem?_eq_some_iff.1 hg).1,fun i a=>?_⟩;have b:l.length=n:=by have:=h.1;simpa using this
    have:(cur.toList.take (n * 1))[i]?=some (J I (l.getD i 0)):=by rw[ht];simp[List.getD,a]
    rw[List.getElem?_take_of_lt (by omega)]at this
    simp only[World.cell?,hg,Nat.zero_add]
    simpa using this
theorem q6d{w:World}{b off:Nat}{l:List ByteArray}{a:Option Addr}(d:0<l.length->a=some ⟨b,off,none⟩)(hc:z3m w b off l):∀ ad,a=some ad->∀ j u,(l.map Value.string)[j]?=some u->w.cell? (ad.add j)=some u:=by
  intro ad e j u hu;have c:j<l.length:=by have:=(List.getElem?_eq_some_iff.1 hu).1;simpa using this
  rw[d (by omega)]at e
  cases e;rw[Addr.add_lit,hc j c]
  simp[c]at hu
  simp[List.getD,c,hu]
theorem q8f(l:List ByteArray)(a:Option Addr)(c b off:Nat)(s:ByteArray)(w:World)(Q:l.length<=400)(r:0<l.length->a=some ⟨b,off,none⟩)(H:a=none->c=0)(hc:z3m w b off l) :
    Calls prog 158 #[J1 a l.length c,Value.string s] w fun e w'=>∃ g C,e=.returned (J1 (some ⟨g,0,none⟩) (l ++ [s]).length C)/\w.heap.size<=g/\g<w'.heap.size/\z3m w' g 0 (l ++ [s])/\Bl w w':=by
  obtain⟨i0,v,x,d,y⟩:=info_parts j4K;have z:i0.bytes * (l.length+1)<=281474976710656:=by rw[y];omega
  have A:l.length+1<=maxLen:=by unfold maxLen;omega
  have B:a=none->l.length=0/\c=0:=fun e=>by
    refine⟨?_,H e⟩
    rcases Nat.eq_zero_or_pos l.length with h | h
    · exact h
    · rw[r h]at e;cases e
  have K:Hid (0<l.length->a=some ⟨b,off,none⟩):=r;have L:Hid (z3m w b off l):=hc
  have D:∀ u∈l.map Value.string,u.oneCell'=true:=fun u hu=>by
    simp at hu
    obtain⟨t,_,rfl⟩:=hu;rfl
  clear r hc H
  go_enter func158,ntmps158
  go_wp2_with (first
    | (refine wpList_make_own _ rfl _ _ 46 rfl w.heap.size 9 i0 _ 1 underlying46 v x d .i64 .i64 _ (l.length+1) rfl rfl ?_ z A (Nat.le_refl _) ?_
       · first | omega | simp
       intro w1 i j;have E:=(Below.refl w.heap.size w).grown j (Nat.le_refl _) (fun k m=>by cases m)
       have n:=J6 E;have sc:=q6d K.out (L.out.later E)
       clear E j)
    | (have _m:=sc
       at_builtin
       refine wpList_append_fits_any _ rfl _ _ 46 rfl w.heap.size 9 i0 1 underlying46 v d w.heap.size 0 (l.length+1) [] rfl i a l.length c (l.map Value.string) rfl (by simp) B sc D (by omega) ?_
       intro M o p;have f:=J6 (n.out.grown p n.out.size (fun k m=>by cases m;exact Nat.le_refl _))
       rw[List.nil_append,Nat.zero_add]at o
       clear p sc i)
    | (at_builtin
       refine wpList_append_fits _ rfl _ _ 46 rfl w.heap.size 9 i0 1 underlying46 v d w.heap.size l.length (l.length+1) (l.map Value.string) ?_ (World.ownsRow.alloc o _) ⟨M.heap.size,0,none⟩ 1 1 [Value.string s] rfl rfl (cell_one_new _ _ _) (by simp[Value.oneCell']) (by omega) ?_
       · first | rfl | simp
       intro R q F
       have G:=J6 ((f.out.alloc f.out.size _).grown F (Nat.le_trans f.out.size (by simp)) (fun k m=>by cases m;exact Nat.le_refl _))))
  go_ret;rw[show l.map Value.string ++ [Value.string s]=(l ++ [s]).map Value.string by simp]at q
  obtain⟨S,N,P⟩:=j0w q;exact⟨w.heap.size,l.length+1,by simp,Nat.le_refl _,N,P,G.out⟩
theorem q8b{w:World}{b off:Nat}{l:List Int}{a:Option Addr}(d:0<l.length->a=some ⟨b,off,none⟩)(hc:z1d w b off l):∀ ad,a=some ad->∀ j u,(l.map (Value.int .i64))[j]?=some u->w.cell? (ad.add j)=some u:=by
  intro ad e j u hu;have c:j<l.length:=by have:=(List.getElem?_eq_some_iff.1 hu).1;simpa using this
  rw[d (by omega)]at e
  cases e;rw[Addr.add_lit,hc j c]
  simp[c]at hu
  simp[List.getD,c,hu]
theorem q8X(l:List Int)(a:Option Addr)(c b off:Nat)(s:Int)(w:World)(Q:l.length<=400)(r:0<l.length->a=some ⟨b,off,none⟩)(H:a=none->c=0)(hc:z1d w b off l) :
    Calls prog 159 #[J1 a l.length c,(Value.int .i64) s] w fun e w'=>∃ g C,e=.returned (J1 (some ⟨g,0,none⟩) (l ++ [s]).length C)/\w.heap.size<=g/\g<w'.heap.size/\z1d w' g 0 (l ++ [s])/\Bl w w':=by
  obtain⟨i0,v,x,d,y⟩:=info_parts j6r;have z:i0.bytes * (l.length+1)<=281474976710656:=by rw[y];omega
  have A:l.length+1<=maxLen:=by unfold maxLen;omega
  have B:a=none->l.length=0/\c=0:=fun e=>by
    refine⟨?_,H e⟩
    rcases Nat.eq_zero_or_pos l.length with h | h
    · exact h
    · rw[r h]at e;cases e
  have K:Hid (0<l.length->a=some ⟨b,off,none⟩):=r;have L:Hid (z1d w b off l):=hc
  have D:∀ u∈l.map (Value.int .i64),u.oneCell'=true:=fun u hu=>by
    simp at hu
    obtain⟨t,_,rfl⟩:=hu;rfl
  clear r hc H
  go_enter func159,ntmps159
  go_wp2_with (first
    | (refine wpList_make_own _ rfl _ _ 45 rfl w.heap.size 3 i0 _ 1 underlying45 v x d .i64 .i64 _ (l.length+1) rfl rfl ?_ z A (Nat.le_refl _) ?_
       · first | omega | simp
       intro w1 i j;have E:=(Below.refl w.heap.size w).grown j (Nat.le_refl _) (fun k m=>by cases m)
       have n:=J6 E;have sc:=q8b K.out (L.out.later E)
       clear E j)
    | (have _m:=sc
       at_builtin
       refine wpList_append_fits_any _ rfl _ _ 45 rfl w.heap.size 3 i0 1 underlying45 v d w.heap.size 0 (l.length+1) [] rfl i a l.length c (l.map (Value.int .i64)) rfl (by simp) B sc D (by omega) ?_
       intro M o p;have f:=J6 (n.out.grown p n.out.size (fun k m=>by cases m;exact Nat.le_refl _))
       rw[List.nil_append,Nat.zero_add]at o
       clear p sc i)
    | (at_builtin
       refine wpList_append_fits _ rfl _ _ 45 rfl w.heap.size 3 i0 1 underlying45 v d w.heap.size l.length (l.length+1) (l.map (Value.int .i64)) ?_ (World.ownsRow.alloc o _) ⟨M.heap.size,0,none⟩ 1 1 [(Value.int .i64) s] rfl rfl (cell_one_new _ _ _) (by simp[Value.oneCell']) (by omega) ?_
       · first | rfl | simp
       intro R q F
       have G:=J6 ((f.out.alloc f.out.size _).grown F (Nat.le_trans f.out.size (by simp)) (fun k m=>by cases m;exact Nat.le_refl _))))
  go_ret;rw[show l.map (Value.int .i64) ++ [(Value.int .i64) s]=(l ++ [s]).map (Value.int .i64) by simp]at q
  obtain⟨S,N,P⟩:=j0Q q;exact⟨w.heap.size,l.length+1,by simp,Nat.le_refl _,N,P,G.out⟩
end Ln
namespace Ln
open Go.RowKit
def LVX(c a b:Nat)(d:Line)(B:Nat)(w:World)(x:Line)(v:Value):Prop:=
 ∃ sa da cs cd sb so db dO,v=J4 #[J1 sa x.S.length cs,J1 da x.D.length cd,J I x.g,J3 x.cl]/\LAt w x sa da cs cd sb so db dO/\(0<x.S.length->sb<B/\((sb=a/\x.S=d.S)∨c<=sb))/\(0<x.D.length->db<B/\((db=b/\x.D=d.D)∨c<=db))
def Ans(a b:Nat)(c:Line)(w:World)(r:Line×Int)(e:Ending)(w':World):Prop:=∃ v,e=.returned (.tuple #[v,J I r.2])/\LVX w.heap.size a b c w'.heap.size w' r.1 v/\Bl w w'
def FAt(w:World)(b:Nat)(v0 v1 v2 v3:Value):Prop:=w.heap[b]?=some (J5 #[v0,v1,v2,v3] 48)
section
variable {w w':World} {b B:Nat} {v0 v1 v2 v3:Value}
theorem FAt.later(h:FAt w b v0 v1 v2 v3)(hb:Below B w w')(a:b<B):FAt w' b v0 v1 v2 v3:=(hb.block b a).trans h
theorem FAt.new(w:World)(v0 v1 v2 v3:Value):FAt (w.alloc (J5 #[v0,v1,v2,v3] 48)) w.heap.size v0 v1 v2 v3:=heap_alloc_new _ _
theorem FAt.lt(h:FAt w b v0 v1 v2 v3):b<w.heap.size:=(Array.getElem?_eq_some_iff.1 h).1
theorem FAt.alloc(h:FAt w b v0 v1 v2 v3)(o:Obj):FAt (w.alloc o) b v0 v1 v2 v3:=(Below.heap_alloc _ _ _ h.lt).trans h
theorem FAt.other{c o:Nat}(h:FAt w b v0 v1 v2 v3)(hb:b≠c)(v:Value):FAt (w.setCell ⟨c,o,none⟩ v) b v0 v1 v2 v3:=(Below.heap_setCell _ _ _ _ hb).trans h
theorem FAt.facts(h:FAt w b v0 v1 v2 v3):(w.cell? ⟨b,0,none⟩=some v0/\w.cell? ⟨b,1,none⟩=some v1/\w.cell? ⟨b,2,none⟩=some v2/\w.cell? ⟨b,3,none⟩=some v3)/\(w.frozen? ⟨b,0,none⟩=false/\w.frozen? ⟨b,1,none⟩=false/\w.frozen? ⟨b,2,none⟩=false/\w.frozen? ⟨b,3,none⟩=false):=by
 unfold FAt at h
 simp[World.cell?,World.frozen?,h]
theorem FAt.q8q(h:FAt w b v0 v1 v2 v3)(v:Value):FAt (w.setCell ⟨b,0,none⟩ v) b v v1 v2 v3:=by
 unfold FAt at *
 simp[World.setCell,Array.getElem?_modify,h]
theorem FAt.q7m(h:FAt w b v0 v1 v2 v3)(v:Value):FAt (w.setCell ⟨b,1,none⟩ v) b v0 v v2 v3:=by
 unfold FAt at *
 simp[World.setCell,Array.getElem?_modify,h]
theorem FAt.q8y(h:FAt w b v0 v1 v2 v3)(v:Value):FAt (w.setCell ⟨b,2,none⟩ v) b v0 v1 v v3:=by
 unfold FAt at *
 simp[World.setCell,Array.getElem?_modify,h]
theorem FAt.q9i(h:FAt w b v0 v1 v2 v3)(v:Value):FAt (w.setCell ⟨b,3,none⟩ v) b v0 v1 v2 v:=by
 unfold FAt at *
 simp[World.setCell,Array.getElem?_modify,h]
end
def q9D(w:World)(b:Nat)(v0 v1 v2 v3:Value):World:=(((w.setCell ⟨b,0,none⟩ v0).setCell ⟨b,1,none⟩ v1).setCell ⟨b,2,none⟩ v2).setCell ⟨b,3,none⟩ v3
theorem j4Y{w:World}{b:Nat}{a u1 u2 c:Value}(h:FAt w b a u1 u2 c)(v0 v1 v2 v3:Value):FAt (q9D w b v0 v1 v2 v3) b v0 v1 v2 v3:=(((h.q8q v0).q7m v1).q8y v2).q9i v3
theorem q5u{B:Nat}{w0 w:World}{b:Nat}(v0 v1 v2 v3:Value)(h:Below B w0 w)(a:B<=b):Below B w0 (q9D w b v0 v1 v2 v3):=(((h.setCell a _).setCell a _).setCell a _).setCell a _
theorem z8M{w:World}{b:Nat}(v0 v1 v2 v3:Value){c:Nat}(hc:c≠b):(q9D w b v0 v1 v2 v3).heap[c]?=w.heap[c]?:=by
 unfold q9D;rw[Below.heap_setCell _ _ _ _ hc,Below.heap_setCell _ _ _ _ hc,Below.heap_setCell _ _ _ _ hc,Below.heap_setCell _ _ _ _ hc]
theorem cell_of_heap{w w':World}{b:Nat}(h:w'.heap[b]?=w.heap[b]?)(o:Nat):w'.cell? ⟨b,o,none⟩=w.cell? ⟨b,o,none⟩:=World.cell?_of_block (w:=w) (a:=⟨b,o,none⟩) h
theorem q2u{w:World}{b c o:Nat}{v:Value}(h:c≠b)(k:Nat):(w.setCell ⟨b,o,none⟩ v).cell? ⟨c,k,none⟩=w.cell? ⟨c,k,none⟩:=cell_of_heap (Below.heap_setCell _ _ _ _ h) k
theorem LAt.set{w w':World}{x:Line}{sa da:Option Addr}{cs cd sb so db dO:Nat}(h:LAt w x sa da cs cd sb so db dO)(b:0<x.S.length->w'.heap[sb]?=w.heap[sb]?)(c:0<x.D.length->w'.heap[db]?=w.heap[db]?):LAt w' x sa da cs cd sb so db dO:=
 ⟨h.hls,h.hld,h.hsa,h.hda,h.ncs,h.ncd,fun i a=>(cell_of_heap (b (by omega)) _).trans (h.PS i a),fun i a=>(cell_of_heap (c (by omega)) _).trans (h.PD i a)⟩
theorem z6L{f:Func}{p q:Tmp}(a:f.results=#[.cell p 48,.tmp q]){w wq:World}{b:Nat}{u u1 u2 y:Value}(R:FAt wq b u u1 u2 y)(H:Bl w wq)(z:w.heap.size<=b)(x:Line)(sa da:Option Addr)(cs cd sb so db dO:Nat)(L:LAt wq x sa da cs cd sb so db dO)
  (A:0<x.S.length->sb≠b) (B:0<x.D.length->db≠b) {c d:Nat} {j:Line} (k:0<x.S.length->(sb=c/\x.S=j.S)∨w.heap.size<=sb) (l:0<x.D.length->(db=d/\x.D=j.D)∨w.heap.size<=db) (s t:Nat) (C:s=x.S.length) (E:t=x.D.length) (i:Int) (r:Line×Int) (F:r=(x,i)) (act:Act)
  (G:act.tmps.getD p undef=J2 (some ⟨b,0,none⟩)) (K:act.tmps.getD q undef=J I i) (hd:act.defers=[]) :
  bodyPost prog f (fun e w'=>Ans c d j w r e w') Exit.ret act (q9D wq b (J1 sa s cs) (J1 da t cd) (J I x.g) (J3 x.cl)):=by
 subst F C E;have M:=j4Y R (J1 sa x.S.length cs) (J1 da x.D.length cd) (J I x.g) (J3 x.cl);have N:=q5u (J1 sa x.S.length cs) (J1 da x.D.length cd) (J I x.g) (J3 x.cl) H z;have m:LAt (q9D wq b (J1 sa x.S.length cs) (J1 da x.D.length cd) (J I x.g) (J3 x.cl)) x sa da cs cd sb so db dO:=L.set (fun h=>z8M _ _ _ _ (A h)) (fun h=>z8M _ _ _ _ (B h));generalize q9D wq b (J1 sa x.S.length cs) (J1 da x.D.length cd) (J I x.g) (J3 x.cl)=w9 at *;obtain⟨⟨c0,c1,c2,c3⟩,-⟩:=M.facts;have n:act.tmps[p]?.getD undef=J2 (some ⟨b,0,none⟩):=by simpa using G
 have o:act.tmps[q]?.getD undef=J I i:=by simpa using K
 exact bodyPost_ret (v:=.tuple #[J4 #[J1 sa x.S.length cs,J1 da x.D.length cd,J I x.g,J3 x.cl],J I i]) (by simp[results,a,go_sem,n,o,c0,c1,c2,c3]) hd ⟨_,rfl,⟨sa,da,cs,cd,sb,so,db,dO,rfl,m,fun h=>⟨m.ltS h,k h⟩,fun h=>⟨m.ltD h,l h⟩⟩,N⟩
theorem q6h(x:Line)(s:ByteArray)(due:Int) :
  (due<0/\(z5K x s due,z6v x due)=(x,2))∨(0<=due/\z4a x≠0/\(z5K x s due,z6v x due)=(x,z4a x))∨(0<=due/\z4a x=0/\400<=x.S.length/\(z5K x s due,z6v x due)=(x,6)) ∨
  (0<=due/\z4a x=0/\x.S.length<400/\(z5K x s due,z6v x due)=(⟨x.S ++ [s],x.D ++ [due],x.g,x.cl⟩,0)):=by
 unfold z5K
 by_cases h1:due<0
 ·left;simp[z6v,h1]
 right
 by_cases h2:z4a x=0
 ·right
  by_cases h3:400<=x.S.length
  ·left;refine⟨by omega,h2,h3,?_⟩;simp[z6v,h1,h2,h3]
  ·right;refine⟨by omega,h2,by omega,?_⟩;simp[z6v,h1,h2,h3]
 ·left;refine⟨by omega,h2,?_⟩;simp[z6v,h1,h2]
theorem FAt.new2(w:World)(o:Obj)(v0 v1 v2 v3:Value):FAt ((w.alloc o).alloc (J5 #[v0,v1,v2,v3] 48)) (w.heap.size+1) v0 v1 v2 v3:=by
 have:=FAt.new (w.alloc o) v0 v1 v2 v3
 rwa [show (w.alloc o).heap.size=w.heap.size+1 by simp]at this
structure q5c(w w0:World)(x:Line)(sa da:Option Addr)(cs cd sb so db dO:Nat):Prop where
 F1:FAt w0 w.heap.size (J1 sa x.S.length cs) (J1 da x.D.length cd) (J I x.g) (J3 x.cl)
 F2:FAt w0 (w.heap.size+1) (J1 none 0 0) (J1 none 0 0) (J I 0) (J3 false)
 L:LAt w0 x sa da cs cd sb so db dO
 ltS:0<x.S.length->sb<w.heap.size
 ltD:0<x.D.length->db<w.heap.size
 below:Bl w w0
 size:w.heap.size+2<=w0.heap.size
theorem begun{w:World}{x:Line}{sa da:Option Addr}{cs cd sb so db dO:Nat}(L:LAt w x sa da cs cd sb so db dO):q5c w ((w.alloc (J5 #[J1 sa x.S.length cs,J1 da x.D.length cd,J I x.g,J3 x.cl] 48)).alloc (J5 #[J1 none 0 0,J1 none 0 0,J I 0,J3 false] 48)) x sa da cs cd sb so db dO:=by
 have hb:Bl w ((w.alloc (J5 #[J1 sa x.S.length cs,J1 da x.D.length cd,J I x.g,J3 x.cl] 48)).alloc (J5 #[J1 none 0 0,J1 none 0 0,J I 0,J3 false] 48)):=(z0u w _).alloc (by simp) _
 exact⟨(FAt.new w _ _ _ _).alloc _,FAt.new2 w _ _ _ _ _,L.later hb,L.ltS,L.ltD,hb,by simp⟩
theorem q5c.over{w w0 w1:World}{x:Line}{sa da:Option Addr}{cs cd sb so db dO:Nat}(h:q5c w w0 x sa da cs cd sb so db dO)(hb:Bl w0 w1):q5c w w1 x sa da cs cd sb so db dO:=
 ⟨h.F1.later hb h.F1.lt,h.F2.later hb h.F2.lt,h.L.later hb,h.ltS,h.ltD,z1N h.below hb,Nat.le_trans h.size hb.size⟩
theorem q5c.z0D{f:Func}{p q:Tmp}(a:f.results=#[.cell p 48,.tmp q]){w w0:World}{x:Line}{sa da:Option Addr}{cs cd sb so db dO:Nat}(h:q5c w w0 x sa da cs cd sb so db dO)(b:Int)(r:Line×Int)(c:r=(x,b))(act:Act)
  (d:act.tmps.getD p undef=J2 (some ⟨w.heap.size+1,0,none⟩)) (i:act.tmps.getD q undef=J I b) (hd:act.defers=[]) :
  bodyPost prog f (fun e w'=>Ans sb db x w r e w') Exit.ret act (q9D w0 (w.heap.size+1) (J1 sa x.S.length cs) (J1 da x.D.length cd) (J I x.g) (J3 x.cl)):=
 z6L a h.F2 h.below (Nat.le_succ _) x sa da cs cd sb so db dO h.L (fun h0=>by have:=h.ltS h0;omega) (fun h0=>by have:=h.ltD h0;omega) (fun _=>.inl ⟨rfl,rfl⟩) (fun _=>.inl ⟨rfl,rfl⟩) _ _ rfl rfl b r c act d i hd
theorem j2X(x:Line)(sa da:Option Addr)(cs cd sb so db dO:Nat)(s:ByteArray)(due:Int)(w:World)(L:LAt w x sa da cs cd sb so db dO) :
  Calls prog 118 #[J4 #[J1 sa x.S.length cs,J1 da x.D.length cd,J I x.g,J3 x.cl],.string s,J I due] w fun e w'=>Ans sb db x w (z5K x s due,z6v x due) e w':=by
 have a3:=q6h x s due;generalize (z5K x s due,z6v x due)=r at *;have j:=J6 (begun L);have f:=J6 (fun w (L:LAt w x sa da cs cd sb so db dO)=>q1C x sa da cs cd sb so db dO w L);clear L
 go_enter func118,ntmps118
 go_upto_region 1 with fail
 generalize ((w.alloc (J5 #[J1 sa x.S.length cs,J1 da x.D.length cd,J I x.g,J3 x.cl] 48)).alloc (J5 #[J1 none 0 0,J1 none 0 0,J I 0,J3 false] 48))=w0 at *;obtain⟨⟨c0,c1,c2,c3⟩,-⟩:=j.out.F1.facts;obtain⟨⟨H,K,M,N⟩,⟨f0,f1,f2,f3⟩⟩:=j.out.F2.facts;have T:=fun h=>z6W (z7q (x:=x) h).1;have a4:=J6 T;clear T;generalize z4a x=R at *
 rcases a3 with⟨h1,hr⟩ | ⟨h1,h2,hr⟩ | ⟨h1,h2,h3,hr⟩ | ⟨h1,h2,h3,hr⟩
 ·have A:=J6 hr;clear hr;go_wp2;exact j.out.z0D rfl _ _ A.out _ rfl rfl rfl
 ·have A:=J6 hr;have a5:(R != 0)=true:=by simpa using h2
  clear hr h2
  go_wp2_with (go_at_call 124;refine (f.out _ j.out.L).mono ?_;rintro e w1⟨rfl,hb⟩;have a:=J6 (j.out.over hb);clear hb c0 c1 c2 c3 H K M N f0 f1 f2 f3;obtain⟨⟨c0,c1,c2,c3⟩,-⟩:=a.out.F1.facts;obtain⟨⟨H,K,M,N⟩,⟨f0,f1,f2,f3⟩⟩:=a.out.F2.facts)
  exact a.out.z0D rfl _ _ A.out _ rfl rfl rfl
 ·have A:=J6 hr;subst h2;clear hr
  go_wp2_with (go_at_call 124;refine (f.out _ j.out.L).mono ?_;rintro e w1⟨rfl,hb⟩;have a:=J6 (j.out.over hb);clear hb c0 c1 c2 c3 H K M N f0 f1 f2 f3;obtain⟨⟨c0,c1,c2,c3⟩,-⟩:=a.out.F1.facts;obtain⟨⟨H,K,M,N⟩,⟨f0,f1,f2,f3⟩⟩:=a.out.F2.facts)
  exact a.out.z0D rfl _ _ A.out _ rfl rfl rfl
 ·have A:=J6 hr;subst h2;obtain⟨U,V,-,-⟩:=a4.out rfl;have W:=J6 U;clear hr U
  go_upto_region 8 with (go_at_call 124;refine (f.out _ j.out.L).mono ?_;rintro e w1⟨rfl,hb⟩;have a:=J6 (j.out.over hb);clear hb c0 c1 c2 c3 H K M N f0 f1 f2 f3;obtain⟨⟨c0,c1,c2,c3⟩,⟨B,C,E,F⟩⟩:=a.out.F1.facts)
  go_upto_region 9 with (go_at_call 158;refine (q8f x.S sa cs sb so s _ V a.out.L.hsa a.out.L.ncs a.out.L.PS).mono ?_;rintro e P⟨d,l,rfl,X,m,hS,hb⟩;have b:=J6 (a.out.over hb);have HS:=J6 (show _/\_/\_ from⟨hS,X,m⟩);have HZ:=J6 hb.size;clear hb hS X m c0 c1 c2 c3 B C E F;obtain⟨⟨c0,c1,c2,c3⟩,⟨B,C,E,F⟩⟩:=b.out.F1.facts)
  have F1:=b.out.F1.q8q (J1 (some ⟨d,0,none⟩) (x.S.length+1) l);have F2:=b.out.F2.other (c:=w.heap.size) (o:=0) (by omega) (J1 (some ⟨d,0,none⟩) (x.S.length+1) l)
  have Y:=b.out.below.setCell (p:=⟨w.heap.size,0,none⟩) (Nat.le_refl _) (J1 (some ⟨d,0,none⟩) (x.S.length+1) l);have PD:=b.out.L.PD.z4k ((Below.refl w.heap.size P).setCell (p:=⟨w.heap.size,0,none⟩) (Nat.le_refl _) (J1 (some ⟨d,0,none⟩) (x.S.length+1) l)) b.out.ltD;have PS:z3m (P.setCell ⟨w.heap.size,0,none⟩ (J1 (some ⟨d,0,none⟩) (x.S.length+1) l)) d 0 (x.S ++ [s]):=fun i Z=>(q2u (by have:=a.out.size;have:=HS.out.2.1;omega) _).trans (HS.out.1 i Z)
  have hz:(P.setCell ⟨w.heap.size,0,none⟩ (J1 (some ⟨d,0,none⟩) (x.S.length+1) l)).heap.size=P.heap.size:=by simp
  have a0:w.heap.size+2<=d/\d<P.heap.size:=⟨by have:=a.out.size;have:=HS.out.2.1;omega,HS.out.2.2⟩
  clear c0 c1 c2 c3 B C E F;generalize (P.setCell ⟨w.heap.size,0,none⟩ (J1 (some ⟨d,0,none⟩) (x.S.length+1) l))=w3 at *;obtain⟨⟨c0,c1,c2,c3⟩,⟨B,C,E,F⟩⟩:=F1.facts;have n:=J6 (show _/\_/\_/\_/\_/\_/\_ from⟨F1,F2,Y,PD,PS,hz,a0⟩);clear F1 F2 Y PD PS hz a0
  go_upto_region 10 with (go_at_call 159;refine (q8X x.D da cd db dO due _ (by rw[W.out];exact V) b.out.L.hda b.out.L.ncd n.out.2.2.2.1).mono ?_;rintro e w4⟨g2,Q,rfl,a1,q,hD,hb⟩;have HY:=J6 (show _/\_/\_/\_ from⟨hD,a1,q,hb⟩);have F1:=n.out.1.later hb n.out.1.lt;clear hb hD a1 q c0 c1 c2 c3 B C E F;obtain⟨⟨c0,c1,c2,c3⟩,⟨B,C,E,F⟩⟩:=F1.facts)
  have F2:=(n.out.2.1.later HY.out.2.2.2 n.out.2.1.lt).other (c:=w.heap.size) (o:=1) (by omega) (J1 (some ⟨g2,0,none⟩) (x.D.length+1) Q)
  have a2:=F1.q7m (J1 (some ⟨g2,0,none⟩) (x.D.length+1) Q);have Y:=(z1N n.out.2.2.1 HY.out.2.2.2).setCell (p:=⟨w.heap.size,1,none⟩) (Nat.le_refl _) (J1 (some ⟨g2,0,none⟩) (x.D.length+1) Q);have z:=n.out.2.2.2.2.2;have z2:=HY.out.2.1
  have LN:LAt (w4.setCell ⟨w.heap.size,1,none⟩ (J1 (some ⟨g2,0,none⟩) (x.D.length+1) Q)) ⟨x.S ++ [s],x.D ++ [due],x.g,x.cl⟩ (some ⟨d,0,none⟩) (some ⟨g2,0,none⟩) l Q d 0 g2 0:=by
   refine⟨?_,?_,fun _=>rfl,fun _=>rfl,fun h=>(by cases h),fun h=>(by cases h),fun i Z=>?_,fun i Z=>?_⟩
   ·show (x.S ++ [s]).length * 16<=_
    simp;omega
   ·show (x.D ++ [due]).length * 8<=_
    simp[W.out];omega
   ·exact (q2u (by omega) _).trans ((HY.out.2.2.2.cell (p:=⟨d,0+i,none⟩) (by show d<_;omega)).trans (n.out.2.2.2.2.1 i Z))
   ·exact (q2u (by omega) _).trans (HY.out.1 i Z)
  clear c0 c1 c2 c3 B C E F;generalize (w4.setCell ⟨w.heap.size,1,none⟩ (J1 (some ⟨g2,0,none⟩) (x.D.length+1) Q))=w5 at *;obtain⟨⟨c0,c1,c2,c3⟩,-⟩:=a2.facts;obtain⟨⟨H,K,M,N⟩,⟨f0,f1,f2,f3⟩⟩:=F2.facts;have G:=J6 (show _/\_/\_ from⟨F2,Y,LN⟩);have t:d≠w.heap.size+1:=by omega
  have u:g2≠w.heap.size+1:=by omega
  have v:w.heap.size<=d:=by omega
  have y:w.heap.size<=g2:=by omega
  have k:=J6 (show (_/\_)/\_/\_ from⟨⟨t,v⟩,u,y⟩);clear F1 a2 F2 Y LN t u v y z z2;go_wp2;exact z6L rfl G.out.1 G.out.2.1 (Nat.le_succ _) ⟨x.S ++ [s],x.D ++ [due],x.g,x.cl⟩ _ _ _ _ _ _ _ _ G.out.2.2 (fun _=>k.out.1.1) (fun _=>k.out.2.1) (fun _=>.inr k.out.1.2) (fun _=>.inr k.out.2.2) _ _ (by simp) (by simp) _ _ A.out _ rfl rfl rfl
end Ln
section
open Go.RowKit
structure z2k(w:World)(ao:Option Addr)(b o:Nat)(W:List Wt):Prop where
  adr:0<W.length->ao=some ⟨b,o,none⟩
  len:W.length * 64<=140737488351232
  cell:∀ i x,W[i]?=some x->w.cell? ⟨b,o+i * 8,none⟩=some (J I x.num)/\w.cell? ⟨b,o+i * 8+1,none⟩=some (J I x.d)/\w.cell? ⟨b,o+i * 8+2,none⟩=some (J I x.v)/\w.cell? ⟨b,o+i * 8+3,none⟩=some (J I x.amt) /\
    w.cell? ⟨b,o+i * 8+4,none⟩=some (J I x.hei)/\w.cell? ⟨b,o+i * 8+5,none⟩=some (J I x.due)/\w.cell? ⟨b,o+i * 8+6,none⟩=some (J I x.h0)/\w.cell? ⟨b,o+i * 8+7,none⟩=some (J I x.h1)
theorem z2k.later{w w':World}{ao:Option Addr}{b o B:Nat}{W:List Wt}(h:z2k w ao b o W)(hb:Below B w w')(d:0<W.length->b<B):z2k w' ao b o W:=by
  refine⟨h.adr,h.len,fun i x c=>?_⟩;have a:b<B:=d (by have:=(List.getElem?_eq_some_iff.1 c).1;omega)
  have k:∀ o,w'.cell? ⟨b,o,none⟩=w.cell? ⟨b,o,none⟩:=fun o=>hb.cell a;obtain⟨h0,h1,h2,h3,e,f,g,j⟩:=h.cell i x c;exact⟨(k _).trans h0,(k _).trans h1,(k _).trans h2,(k _).trans h3,(k _).trans e,(k _).trans f,(k _).trans g,(k _).trans j⟩
theorem z2k.lt{w:World}{ao:Option Addr}{b o:Nat}{W:List Wt}(h:z2k w ao b o W)(h0:0<W.length):b<w.heap.size:=by
  obtain⟨x,a⟩:∃ x,W[0]?=some x:=⟨W[0],List.getElem?_eq_getElem h0⟩;exact World.block_lt_of_cell? w _ (h.cell 0 x a).1
theorem z2k.over{w w':World}{ao:Option Addr}{b o:Nat}{W:List Wt}(h:z2k w ao b o W)(hb:Bl w w'):z2k w' ao b o W:=h.later hb h.lt
theorem drop_at{α:Type}{l:List α}{k:Nat}(h:k<l.length):∃ x,l[k]?=some x/\l.drop k=x :: l.drop (k+1):=⟨l[k],List.getElem?_eq_getElem h,List.drop_eq_getElem_cons h⟩
theorem z8H(d:Int)(w:World):Calls prog 99 #[J I d] w fun e w'=>e=.returned (J3 (decide (0<d) && inA d))/\w=w':=by
  have i1:=z4Z d;generalize inA d=t at *
  go_enter func99,ntmps99
  go_wp2_with (go_at_call 142;refine (i1 _).mono ?_;rintro e w5⟨rfl,rfl⟩)
  all_goals (go_ret;refine⟨?_,rfl⟩;congr 1;congr 1;first | (simp_all;done) | (simp_all;omega) | (simp_all;intros;omega))
theorem z9x(W:List Wt)(ao:Option Addr)(b o c:Nat)(next:Int)(w:World)(h:z2k w ao b o W) :
    Calls prog 135 #[J1 ao W.length c,J I next] w fun e w'=>e=.returned (J3 (wOk next 0 W))/\Bl w w':=by
  have m:=h.len;have q:Hid (z2k w ao b o W):=h;have a:=h.adr;clear h
  go_enter func135,ntmps135
  go_wp2
  go_loopw [5,10] (fun r i wl=>∃ (k:Nat) (last:Int),k<=W.length/\i=J I (k:Int)/\r=J I last/\Hid (wOk next 0 W=wOk next last (W.drop k)/\Bl w wl)) (fun _ i _=>W.length - (intOf i).toNat)
  case atStart=>exact⟨0,0,Nat.zero_le _,rfl,rfl,rfl,Below.refl _ _⟩
  case round =>
    obtain⟨k,last,z,rfl,rfl,f⟩:=hrel
    by_cases l:k<W.length
    · obtain⟨x,s,hd⟩:=drop_at l
      have j:Hid (Bl w wr):=f.out.2;obtain⟨c0,c1,c2,c3,A,B,C,D⟩:=(q.out.over j.out).cell k x s;have n:Hid (wOk next 0 W=(q1b last next x && wOk next x.num (W.drop (k+1)))):=by have:=f.out.1;rw[hd]at this;exact this
      clear f hd;obtain rfl:=a (by omega)
      clear a;have g:w.heap.size<=wr.heap.size:=j.out.size;have t:=z9g x.d;have u:=z6U x.v;have y:=z4Z x.amt;have p:Hid (∀ last,q1b last next x=(decide (last<x.num) && decide (x.num<next) && isD x.d && isV x.v && inA x.amt && decide (0<=x.hei) && decide (0<=x.due))):=fun _=>rfl
      generalize isD x.d=t1 at *;generalize isV x.v=t2 at *;generalize inA x.amt=t3 at *
      go_wp2_with (first
        | (go_at_call 141;refine (t _).mono ?_;rintro e w5⟨rfl,rfl⟩)
        | (go_at_call 106;refine (u _).mono ?_;rintro e w6⟨rfl,rfl⟩)
        | (go_at_call 142;refine (y _).mono ?_;rintro e E⟨rfl,rfl⟩))
      all_goals first
        | (go_ret;refine⟨?_,j.out.alloc g _⟩;rw[n.out,p.out];congr 1;congr 1;first | (simp_all;done) | (simp_all;omega) | (simp_all;intros;omega))
        | (go_roundw
           case rel=>exact⟨k+1,x.num,by omega,by go_num,rfl,(by rw[n.out,p.out];simp_all),j.out.alloc g _⟩
           case measure=>simp[intOf];omega)
    · go_wp2
      go_ret;refine⟨?_,f.out.2⟩;rw[f.out.1,List.drop_eq_nil_of_le (by omega)]
      rfl
theorem z0x:(prog.info? 43).map (·.size)=some 63:=by kernel_rfl
def SAt(w:World)(b:Nat)(cs:Array Value):Prop:=w.heap[b]?=some (J5 cs 43)
theorem SAt.new(w:World)(cs:Array Value):SAt (w.alloc (J5 cs 43)) w.heap.size cs:=heap_alloc_new _ _
theorem SAt.new2(w:World)(o:Obj)(cs:Array Value):SAt ((w.alloc o).alloc (J5 cs 43)) (w.heap.size+1) cs:=by
 have h:SAt ((w.alloc o).alloc (J5 cs 43)) (w.alloc o).heap.size cs:=SAt.new (w.alloc o) cs
 rwa [show (w.alloc o).heap.size=w.heap.size+1 by simp]at h
theorem SAt.later{w w':World}{b B:Nat}{cs:Array Value}(h:SAt w b cs)(hb:Below B w w')(a:b<B):SAt w' b cs:=(hb.block b a).trans h
theorem SAt.alloc{w:World}{b:Nat}{cs:Array Value}(h:SAt w b cs)(o:Obj):SAt (w.alloc o) b cs:=(Below.heap_alloc _ _ _ (Array.getElem?_eq_some_iff.1 h).1).trans h
theorem SAt.lt{w:World}{b:Nat}{cs:Array Value}(h:SAt w b cs):b<w.heap.size:=(Array.getElem?_eq_some_iff.1 h).1
theorem SAt.other{w:World}{b c o:Nat}{cs:Array Value}(h:SAt w b cs)(hb:b≠c)(v:Value):SAt (w.setCell ⟨c,o,none⟩ v) b cs:=(Below.heap_setCell _ _ _ _ hb).trans h
theorem SAt.cell{w:World}{b:Nat}{cs:Array Value}(h:SAt w b cs)(o:Nat):w.cell? ⟨b,o,none⟩=cs[o]?:=by
 unfold SAt at h
 simp[World.cell?,h]
theorem SAt.free{w:World}{b:Nat}{cs:Array Value}(h:SAt w b cs)(o:Nat):w.frozen? ⟨b,o,none⟩=false:=by
 unfold SAt at h
 simp[World.frozen?,h]
theorem SAt.set{w:World}{b:Nat}{cs:Array Value}(h:SAt w b cs)(o:Nat)(v:Value):SAt (w.setCell ⟨b,o,none⟩ v) b (cs.setIfInBounds o v):=by
 unfold SAt at *
 simp[World.setCell,Array.getElem?_modify,h]
theorem SAt.range{w:World}{b:Nat}{cs:Array Value}(h:SAt w b cs):w.rangeAt b 0 cs.toList:=by
 intro j v a;rw[Nat.zero_add,h.cell]
 simpa using a
theorem SAt.there{w:World}{b:Nat}{cs:Array Value}(h:SAt w b cs)(o n:Nat)(a:o+n<=cs.size):w.there b o n:=by
 intro j c;rw[h.cell,h.free];have:o+j<cs.size:=by omega
 simp[this]
theorem SAt.sets{b:Nat}:∀ (a:List Value) (o:Nat) (w:World) (cs:Array Value),SAt w b cs->SAt (w.setCells b o a) b (spl cs o a)
 | [],_,_,_,h=>h
 | v :: r,o,_,_,h=>SAt.sets r (o+1) _ _ (h.set o v)
theorem SAt.z0t{w:World}{b:Nat}{cs ds:Array Value}(h:SAt w b cs)(hd:ds.size=cs.size):SAt (w.setCells b 0 ds.toList) b ds:=by
 have:=SAt.sets ds.toList 0 w cs h
 rwa [q9m hd]at this
theorem SAt.load{w:World}{b:Nat}{cs:Array Value}(h:SAt w b cs)(a:cs.size=63):(Instr.loadAt 43 (J2 (some ⟨b,0,none⟩))).run prog w=.ok (J4 cs) w:=by
 have:=run_loadAt_mid (P:=prog) w b 0 43 cs.toList _ h.range underlying43 rfl (by rw[z0x];simp[a])
 simpa using this
def Z63:Array Value:=#[J I 0,J I 0,J I 0,J I 0,J I 0,J I 0,J I 0,J I 0,J I 0,J I 0,J3 false,J3 false,J I 0,J I 0,J I 0,J3 false,J3 false,J I 0,J I 0,J I 0,J3 false,J3 false,J I 0,J I 0,J I 0,J3 false,J3 false,J I 0,J I 0,J I 0,J3 false,J3 false,J I 0,J I 0,J I 0,J3 false,J3 false,J I 0,J I 0,J I 0,J I 0,J I 0,J I 0,J I 0,J I 0,J I 0,J I 0,J I 0,J I 0,J I 0,J I 0,J I 0,J I 0,J I 0,J I 0,J I 0,J I 0,J I 0,J I 0,J I 0,J I 0,J1 none 0 0,J I 0]
def vsC(V:Nat->Vd):Array Value:=#[J I (V 0).tok,J I (V 0).sh,J I (V 0).lost,J3 (V 0).jail,J3 (V 0).dead,J I (V 1).tok,J I (V 1).sh,J I (V 1).lost,J3 (V 1).jail,J3 (V 1).dead,J I (V 2).tok,J I (V 2).sh,J I (V 2).lost,J3 (V 2).jail,J3 (V 2).dead,J I (V 3).tok,J I (V 3).sh,J I (V 3).lost,J3 (V 3).jail,J3 (V 3).dead,J I (V 4).tok,J I (V 4).sh,J I (V 4).lost,J3 (V 4).jail,J3 (V 4).dead,J I (V 5).tok,J I (V 5).sh,J I (V 5).lost,J3 (V 5).jail,J3 (V 5).dead]
def shC(S:Nat->Nat->Int):Array Value:=#[J I (S 0 0),J I (S 0 1),J I (S 0 2),J I (S 0 3),J I (S 0 4),J I (S 0 5),J I (S 1 0),J I (S 1 1),J I (S 1 2),J I (S 1 3),J I (S 1 4),J I (S 1 5),J I (S 2 0),J I (S 2 1),J I (S 2 2),J I (S 2 3),J I (S 2 4),J I (S 2 5),J I (S 3 0),J I (S 3 1),J I (S 3 2),J I (S 3 3),J I (S 3 4),J I (S 3 5)]
def bkC(b:Bk):Array Value:=#[J I b.f0,J I b.f1,J I b.f2,J I b.f3,J I b.bo,J I b.wa,J I b.bu]
def stL(b:Bk)(V:Nat->Vd)(S:Nat->Nat->Int)(sl:Value)(next:Int):List Value:=(bkC b).toList ++ ((vsC V).toList ++ ((shC S).toList ++ [sl,J I next]))
def stC(s:St)(sl:Value):Array Value:=(stL s.b s.V s.S sl s.next).toArray
theorem z0f(s:St)(sl:Value):(stC s sl).size=63:=rfl
theorem j4s{w:World}{b:Nat}{s:St}{sl:Value}(h:SAt w b (stC s sl)):w.rangeAt b 7 (vsC s.V).toList:=by
 intro j v a;have c:j<30:=(List.getElem?_eq_some_iff.1 a).1;rw[h.cell];simp only[stC,stL,List.getElem?_toArray];rw[List.getElem?_append_right (by show 7<=7+j;omega),show 7+j - (bkC s.b).toList.length=j from by show 7+j - 7=j;omega,List.getElem?_append_left (show j<(vsC s.V).toList.length from c)]
 exact a
theorem z0r{w:World}{b:Nat}{s:St}{sl:Value}(h:SAt w b (stC s sl)):w.cell? ⟨b,0,none⟩=some (J I s.b.f0)/\w.cell? ⟨b,1,none⟩=some (J I s.b.f1)/\w.cell? ⟨b,2,none⟩=some (J I s.b.f2)/\w.cell? ⟨b,3,none⟩=some (J I s.b.f3)/\w.cell? ⟨b,4,none⟩=some (J I s.b.bo)/\w.cell? ⟨b,5,none⟩=some (J I s.b.wa)/\w.cell? ⟨b,6,none⟩=some (J I s.b.bu)/\w.cell? ⟨b,61,none⟩=some sl/\w.cell? ⟨b,62,none⟩=some (J I s.next):=
 ⟨(h.cell 0).trans rfl,(h.cell 1).trans rfl,(h.cell 2).trans rfl,(h.cell 3).trans rfl,(h.cell 4).trans rfl,(h.cell 5).trans rfl,(h.cell 6).trans rfl,(h.cell 61).trans rfl,(h.cell 62).trans rfl⟩
theorem j2A:(prog.info? 38).map (·.size)=some 30:=by kernel_rfl
theorem ixV(w:World)(V:Nat->Vd)(k:Nat)(a:k<6):(Instr.index 38 (J4 (vsC V)) (J I k)).run prog w=.ok (J4 #[J I (V k).tok,J I (V k).sh,J I (V k).lost,J3 (V k).jail,J3 (V k).dead]) w:=by
 rcases (show k=0∨k=1∨k=2∨k=3∨k=4∨k=5 by omega) with rfl | rfl | rfl | rfl | rfl | rfl <;> kernel_rfl
theorem SAt.val{w:World}{b:Nat}{s:St}{sl:Value}(h:SAt w b (stC s sl))(k:Nat)(a:k<6):w.cell? ⟨b,7+k * 5,none⟩=some (J I (s.V k).tok)/\w.cell? ⟨b,7+k * 5+1,none⟩=some (J I (s.V k).sh)/\w.cell? ⟨b,7+k * 5+2,none⟩=some (J I (s.V k).lost)/\w.cell? ⟨b,7+k * 5+3,none⟩=some (J3 (s.V k).jail)/\w.cell? ⟨b,7+k * 5+4,none⟩=some (J3 (s.V k).dead):=by
 rcases (show k=0∨k=1∨k=2∨k=3∨k=4∨k=5 by omega) with rfl | rfl | rfl | rfl | rfl | rfl <;> exact⟨(h.cell _).trans rfl,(h.cell _).trans rfl,(h.cell _).trans rfl,(h.cell _).trans rfl,(h.cell _).trans rfl⟩
theorem SAt.shr{w:World}{b:Nat}{s:St}{sl:Value}(h:SAt w b (stC s sl))(d v:Nat)(hd:d<4)(a:v<6):w.cell? ⟨b,37+d * 6+v,none⟩=some (J I (s.S d v)):=by
 rcases (show d=0∨d=1∨d=2∨d=3 by omega) with rfl | rfl | rfl | rfl <;> rcases (show v=0∨v=1∨v=2∨v=3∨v=4∨v=5 by omega) with rfl | rfl | rfl | rfl | rfl | rfl <;> exact (h.cell _).trans rfl
theorem z0y(s:St)(sa:Option Addr)(n c:Nat):(stC s (J1 sa n c)).all (·.oneCell')=true:=by simp[stC,stL,bkC,vsC,shC,Value.oneCell']
theorem q8H:(prog.info? 63).map (fun i=>(i.zero,i.size,i.bytes))=some (some (J4 #[J I 0,J I 0,J I 0,J I 0,J I 0,J I 0,J I 0,J I 0]),8,64):=by kernel_rfl
def wtL(x:Wt):List Value:=[J I x.num,J I x.d,J I x.v,J I x.amt,J I x.hei,J I x.due,J I x.h0,J I x.h1]
theorem j0B(ao:Option Addr)(n c:Nat)(a:n<=c)(h0:ao=none->n=0)(hc:(n:Int)<4611686018427387904)(w:World):Calls prog 105 #[J1 ao n c] w fun e w'=>e=.returned (J1 ao n n)/\w=w':=by
 have h1:(n:Int)<=(c:Int):=by omega
 have h2:(0:Int)<=(n:Int):=by omega
 go_enter func105,ntmps105
 cases ao
 ·obtain rfl:=h0 rfl;go_wp2;go_ret;exact⟨rfl,rfl⟩
 ·clear h0;go_wp2;go_ret;exact⟨rfl,rfl⟩
theorem z1P(x:Wt):(wtL x).length=8:=rfl
def wsL(W:List Wt):List Value:=W.flatMap wtL
theorem z1f:∀ W:List Wt,(wsL W).length=W.length * 8
 | []=>rfl
 | x :: W=>by show (wtL x ++ wsL W).length=_;rw[List.length_append,z1f W,z1P,List.length_cons];omega
theorem z4h:∀ (W:List Wt) (i:Nat) (x:Wt) (j:Nat),W[i]?=some x->j<8->(wsL W)[i * 8+j]?=(wtL x)[j]?
 | [],i,x,j,h,_=>by simp at h
 | y :: W,0,x,j,h,hj=>by
  simp at h
  subst h
  show (wtL y ++ wsL W)[0 * 8+j]?=_
  rw[List.getElem?_append_left (by rw[z1P];omega),Nat.zero_mul,Nat.zero_add]
 | y :: W,i+1,x,j,h,hj=>by
  show (wtL y ++ wsL W)[(i+1) * 8+j]?=_
  rw[List.getElem?_append_right (by rw[z1P];omega),z1P,show (i+1) * 8+j - 8=i * 8+j by omega]
  exact z4h W i x j (by simpa using h) hj
theorem q3r{w:World}{ao:Option Addr}{b o:Nat}{W:List Wt}(h:z2k w ao b o W):∀ j v,(wsL W)[j]?=some v->w.cell? ⟨b,o+j,none⟩=some v:=by
 intro j v c;have f:=(List.getElem?_eq_some_iff.1 c).1;rw[z1f]at f;have a:j / 8<W.length:=by omega
 have d:W[j / 8]?=some (W[j / 8]'a):=List.getElem?_eq_getElem a;have e:=z4h W (j / 8) _ (j % 8) d (by omega)
 rw[show j / 8 * 8+j % 8=j by omega,c]at e
 obtain⟨c0,c1,c2,c3,g,i,k,l⟩:=h.cell _ _ d;have hd:j=j / 8 * 8+j % 8:=by omega
 generalize W[j / 8]'a=x at *;generalize m:j / 8=q at *;have n:j % 8<8:=by omega
 generalize j % 8=r at *;subst hd
 rcases (show r=0∨r=1∨r=2∨r=3∨r=4∨r=5∨r=6∨r=7 by omega) with rfl | rfl | rfl | rfl | rfl | rfl | rfl | rfl <;> simp[wtL]at e <;> subst e <;> rw[<- Nat.add_assoc] <;> assumption
theorem q2q{w:World}{b:Nat}{W:List Wt}(a:W.length * 64<=140737488351232)(h:∀ j v,(wsL W)[j]?=some v->w.cell? ⟨b,j,none⟩=some v):z2k w (some ⟨b,0,none⟩) b 0 W:=by
 refine⟨fun _=>rfl,a,fun i x c=>?_⟩
 have k:∀ j,j<8->∀ v,(wtL x)[j]?=some v->w.cell? ⟨b,0+i * 8+j,none⟩=some v:=fun j d v e=>by
  rw[Nat.zero_add];exact h _ _ ((z4h W i x j c d).trans e)
 exact⟨k 0 (by omega) _ rfl,k 1 (by omega) _ rfl,k 2 (by omega) _ rfl,k 3 (by omega) _ rfl,k 4 (by omega) _ rfl,k 5 (by omega) _ rfl,k 6 (by omega) _ rfl,k 7 (by omega) _ rfl⟩
theorem j2b(w:World)(L:List Wt)(arr tail:Array Value)(d:arr.toList=wsL L)(e:TypeId)(f:L.length * 64<=140737488351232):z2k (w.drew.alloc (J5 (arr ++ tail) e)) (some ⟨w.heap.size,0,none⟩) w.heap.size 0 L:=by
 refine q2q f fun j v c=>?_;have h:(w.drew.alloc (J5 (arr ++ tail) e)).heap[w.heap.size]?=some (J5 (arr ++ tail) e):=heap_alloc_new w.drew _;have a:arr[j]?=some v:=by rw[<- d]at c;simpa using c
 have b:=(Array.getElem?_eq_some_iff.1 a).1;simp only[World.cell?,h];rw[Array.getElem?_append_left b]
 simp[a]
theorem ap1(w:World)(ao:Option Addr)(sb so y:Nat)(W:List Wt)(x:Wt)(h:z2k w ao sb so W)(i:W.length<=60)(m:∀ j v,(wtL x)[j]?=some v->w.cell? ⟨y,j,none⟩=some v) :
  ∃ C w',(Builtin.append_ #[41,41] 41 #[J1 ao W.length W.length,J1 (some ⟨y,0,none⟩) 1 1]).run prog w=.ok (J1 (some ⟨w.heap.size,0,none⟩) (W.length+1) C) w'/\W.length+1<=C /\
   z2k w' (some ⟨w.heap.size,0,none⟩) w.heap.size 0 (W ++ [x])/\Bl w w':=by
 obtain⟨i0,l,d,c,e⟩:=info_parts q8H;have b:∀ j v,(wtL x)[j]?=some v->w.cell? ((⟨y,0,none⟩:Addr).add j)=some v:=fun j v g=>by rw[Addr.add_lit,Nat.zero_add];exact m j v g
 have o:wsL (W ++ [x])=wsL W ++ wtL x:=by unfold wsL;rw[List.flatMap_append];simp
 have k:∀ n:Nat,n<=60->Builtin.nextslicecap (n+1) n * 64<=281474976710656:=fun n p=>by
  rcases Nat.eq_zero_or_pos n with rfl | hp
  ·rw[nextslicecap_zero (by omega)];omega
  ·have:=nextslicecap_succ hp;omega
 cases ao with
 | none =>
  have h0:W.length=0:=by
   rcases Nat.eq_zero_or_pos W.length with h0 | h0
   ·exact h0
   ·have:=h.adr h0;cases this
  obtain rfl:W=[]:=List.length_eq_zero_iff.1 h0;refine⟨_,_,run_append_nil (P:=prog) w 41 41 63 i0 _ underlying41 l d ⟨y,0,none⟩ 1 1 (wtL x) (by rw[c];rfl) b (by omega) (by omega) (by rw[e];omega),grownCap_ge _ _ _ _,?_,(Below.refl _ w).drew.alloc (Nat.le_refl _) _⟩
  exact j2b w [x] _ _ (by simp[wsL]) _ (by simp)
 | some a =>
  have f:∀ j v,(wsL W)[j]?=some v->w.cell? (a.add j)=some v:=fun j v g=>by
   have h0:0<W.length:=by
    have:=(List.getElem?_eq_some_iff.1 g).1;rw[z1f]at this;omega
   have:=h.adr h0;cases this;rw[Addr.add_lit];exact q3r h j v g
  refine⟨_,_,run_append_grow (P:=prog) w 41 41 63 i0 _ underlying41 l d a W.length W.length (wsL W) (by rw[z1f,c]) f ⟨y,0,none⟩ 1 1 (wtL x) (by rw[c];rfl) b (by omega) (by omega) (by rw[e];exact k _ i),grownCap_ge _ _ _ _,?_,(Below.refl _ w).drew.alloc (Nat.le_refl _) _⟩
  exact j2b w (W ++ [x]) _ _ (by simp[o]) _ (by simp;omega)
theorem z1c{w w':World}{b e z n:Nat}{v:Value}{c:List Value}(h:w.ownsRow b e z v n c)(d:∀ k,v.ownBlock=some k->w'.heap[k]?=w.heap[k]?):w'.ownsRow b e z v n c:=by
 refine⟨h.1,?_⟩
 rcases h.2 with f | ⟨g,cap,a,rfl,hb,i,rest⟩
 ·exact .inl f
 ·exact .inr ⟨g,cap,a,rfl,hb,(d g rfl).trans i,rest⟩
def z2d(B:Nat)(w:World)(A:Option Addr)(C:Nat)(W:List Wt):Prop:=w.ownsRow B 63 8 (J1 A W.length C) W.length (wsL W)
theorem z2d.to{B:Nat}{w w':World}{A:Option Addr}{C:Nat}{W:List Wt}(h:z2d B w A C W)(b:∀ k,B<=k->k<w.heap.size->w'.heap[k]?=w.heap[k]?):z2d B w' A C W:=z1c h fun k a=>b k (h.lt k a).1 (h.lt k a).2
theorem z2d.over{B:Nat}{w w':World}{A:Option Addr}{C:Nat}{W:List Wt}(h:z2d B w A C W)(hb:Bl w w'):z2d B w' A C W:=h.to fun k _ a=>hb.block k a
theorem z2d.cap{B:Nat}{w:World}{A:Option Addr}{C:Nat}{W:List Wt}(h:z2d B w A C W):W.length<=C:=by
 rcases h.2 with⟨hv,hn⟩ | ⟨g,cap,cur,hv,_,_,hc,_⟩
 ·omega
 ·cases hv;exact hc
theorem ap3(B:Nat)(w:World)(A:Option Addr)(C y:Nat)(W:List Wt)(x:Wt)(h:z2d B w A C W)(n:W.length<=60)(o:B<=w.heap.size)(p:∀ j v,(wtL x)[j]?=some v->w.cell? ⟨y,j,none⟩=some v) :
  ∃ g C' w',(Builtin.append_ #[41,41] 41 #[J1 A W.length C,J1 (some ⟨y,0,none⟩) 1 1]).run prog w=.ok (J1 (some ⟨g,0,none⟩) (W.length+1) C') w'/\z2d B w' (some ⟨g,0,none⟩) C' (W ++ [x])/\B<=g/\g<w'.heap.size/\Below B w w'/\(∀ k,k<w.heap.size->some k≠(Value.slice A W.length C).ownBlock->g≠k/\w'.heap[k]?=w.heap[k]?):=by
 obtain⟨i0,q,e,f,i⟩:=info_parts q8H;have r:wsL (W ++ [x])=wsL W ++ wtL x:=by unfold wsL;rw[List.flatMap_append];simp
 obtain⟨g,cap,w',s,t,b,a,l⟩:=run_append_lies (P:=prog) w 41 41 B 63 i0 _ 8 64 underlying41 q e f i rfl (by omega) (J1 A W.length C) W.length (wsL W) h ⟨y,0,none⟩ 1 1 (wtL x) rfl (fun j v z=>by rw[Addr.add_lit,Nat.zero_add];exact p j v z) (by intro u hu;simp[wtL]at hu;rcases hu with rfl | rfl | rfl | rfl | rfl | rfl | rfl | rfl <;> rfl) (by omega) (by simp only[maxLen];omega) (by omega) o _ rfl
 have c:z2d B w' (some ⟨g,0,none⟩) cap (W ++ [x]):=by
  unfold z2d;rw[r,List.length_append];exact t
 refine⟨g,cap,w',s,c,?_,l,⟨b.os,b.tape,b.output,b.size,fun k m=>b.block k (by omega) (fun D=>?_)⟩,fun k m d=>⟨?_,b.block k m d⟩⟩
 ·exact (c.lt g rfl).1
 ·have:=(h.lt k D.symm).1;omega
 ·rcases a with a | a
  ·rintro rfl;exact d a.symm
  ·omega
theorem z8D{ops:Array Oper}{rest:List Oper}{o:Oper}{a:Act}{w:World}{Q:Exit->Act->World->Prop}(f:o.guard=none)(b:o.type=41)(p q:Operand)
  (c:o.op=Op.call { callee:=Callee.builtin Builtin.append,args:=#[p,q],argTypes:=#[41,41] }) (B:Nat) (A:Option Addr) (C y:Nat) (W:List Wt) (x:Wt) (i:a.eval p=J1 A W.length C) (l:a.eval q=J1 (some ⟨y,0,none⟩) 1 1)
  (h:z2d B w A C W) (d:W.length<=60) (m:B<=w.heap.size) (n:∀ j v,(wtL x)[j]?=some v->w.cell? ⟨y,j,none⟩=some v)
  (r:∀ g C' w',z2d B w' (some ⟨g,0,none⟩) C' (W ++ [x])/\B<=g/\g<w'.heap.size/\Below B w w'/\(∀ k,k<w.heap.size->some k≠(Value.slice A W.length C).ownBlock->g≠k/\w'.heap[k]?=w.heap[k]?)->wpList prog ops Q rest (a.put o.dst (J1 (some ⟨g,0,none⟩) (W.length+1) C')) w'):wpList prog ops Q (o :: rest) a w:=by
 refine wpList_plain f fun _ e=>?_;unfold Oper.wp;obtain⟨g,C',w',s,h1⟩:=ap3 B w A C y W x h d m n
 simp[execOp,c,resolve,invoke,builtin,i,l,b,s,Result.andThen]
 exact e _ _ (r _ _ _ h1)
theorem eqA(w:World)(a b c d b0 b1 b2 b3:Int):(Op.equalIn 9999 33 (J4 #[J I a,J I b,J I c,J I d]) (J4 #[J I b0,J I b1,J I b2,J I b3])).run prog w=.ok (decide (a=b0/\b=b1/\c=b2/\d=b3)) w:=by
 have e:(prog.info? 3).isSome=true:=by kernel_rfl
 obtain⟨i,e⟩:=Option.isSome_iff_exists.1 e;have hc:prog.cellsOf 3=1:=by kernel_rfl
 rw[run_equalIn_array w 9998 _ _ underlying33 e,hc,show List.range 4=[0,1,2,3] from rfl];simp only[Op.eqItems];go_simp
 by_cases h0:a=b0 <;> by_cases h1:b=b1 <;> by_cases h2:c=b2 <;> by_cases h3:d=b3 <;> simp[h0,h1,h2,h3]
theorem eqB(w:World)(a b c d f i j b0 b1 b2 b3 k l m:Int):(binOp .eql 35 (J4 #[J I a,J I b,J I c,J I d,J I f,J I i,J I j]) (J4 #[J I b0,J I b1,J I b2,J I b3,J I k,J I l,J I m])).run prog w=.ok (J3 (decide (a=b0/\b=b1/\c=b2/\d=b3/\f=k/\i=l/\j=m))) w:=by
 have h:=fun w=>eqA w a b c d b0 b1 b2 b3;rw[run_eql_struct]
 by_cases n:a=b0/\b=b1/\c=b2/\d=b3
 ·rw[decide_eq_true n]at h;obtain⟨h0,h1,h2,h3⟩:=n;go_simp;subst h0 h1 h2 h3
  by_cases o:f=k <;> by_cases p:i=l <;> by_cases q:j=m <;> simp[o,p,q,h]
 ·rw[decide_eq_false n]at h;have e:decide (a=b0/\b=b1/\c=b2/\d=b3/\f=k/\i=l/\j=m)=false:=decide_eq_false (fun g=>n ⟨g.1,g.2.1,g.2.2.1,g.2.2.2.1⟩);rw[e];go_simp
end
section
def z0O(s:St)(d v n:Int):St×Int:=
 if z0T s d v=0 then
  if (s.V v.toNat).dead=true then (s,15)
  else if (decide (0<n) && inA n)=true then
   if shE (s.V v.toNat) n=0 then
    if (z2n s.b d n).2=0 then (q3E { s with b:=(z2n s.b d n).1 } d.toNat v.toNat n (shN (s.V v.toNat) n),0)
    else (s,(z2n s.b d n).2)
   else (s,shE (s.V v.toNat) n)
  else (s,2)
 else (s,z0T s d v)
end
namespace Ra
open Go.RowKit
theorem q4a(a y:Int)(b:0<=a)(h:a<18446744073709551616)(c:0<y)(_hy:y<9223372036854775808)(w:World) :
  Calls prog 167 #[.int .u64 0,.int .u64 a,.int .u64 y] w fun e w'=>∃ r,e=.returned (.tuple #[.int .u64 (a / y),.int .u64 r])/\Bl w w':=by
 have t1:(y == 0)=false:=by simp;omega
 have d:¬ y=0:=by omega
 have i:¬ y<=0:=by omega
 have f:a.tdiv y=a / y:=Int.tdiv_eq_ediv_of_nonneg b;have b0:0<=a / y:=Int.ediv_nonneg b (by omega)
 have b1:a / y<=a:=Int.ediv_le_self _ b;obtain⟨q,g⟩:∃ q,a / y=q:=⟨_,rfl⟩;rw[g]at f b0 b1 ⊢;have eq:IntKind.u64.wrap q=q:=by rw[IntKind.wrap_u64];omega
 go_enter func167,ntmps167
 go_wp2;go_quiet (fail);go_wp2;go_ret2;exact⟨_,rfl,⟨rfl,rfl,rfl,Nat.le_refl _,fun _ _=>rfl⟩⟩
theorem j7B(g d y:Int)(h0:0<=g)(h1:g<y)(p:0<=d)(v:d<18446744073709551616)(x:y<9223372036854775808)(w:World) :
  Calls prog 167 #[.int .u64 g,.int .u64 d,.int .u64 y] w fun e w'=>∃ r,e=.returned (.tuple #[.int .u64 ((g * 18446744073709551616+d) / y),.int .u64 r])/\Bl w w':=by
 by_cases z:g=0
 ·subst z;have e:0 * 18446744073709551616+d=d:=by omega
  rw[e];exact q4a d y p v h1 x w
 ·obtain⟨b,rfl⟩:=Int.eq_ofNat_of_zero_le h0;obtain⟨a,rfl⟩:=Int.eq_ofNat_of_zero_le p;obtain⟨f,rfl⟩:=Int.eq_ofNat_of_zero_le (show 0<=y by omega)
  obtain⟨s,B,h,i,l,j⟩:=q6P f (by omega) (by omega)
  obtain⟨e,b1,b2,b3⟩:=q5N b a f s h i (by omega) (by omega) j
  have hc:∀ w,Calls prog 191 #[.int .u64 (f:Int)] w fun e w'=>e=.returned (J I s)/\w'=w:=fun w=>by
   have:=q8C f (by omega) (by omega) w
   rwa [show (64:Int) - (bitLen f:Int)=(s:Int) by omega]at this
  have hp:((2 ^ s:Nat):Int)=(2:Int) ^ s:=by rw[Int.natCast_pow];rfl
  have hp':((2 ^ (64 - s):Nat):Int)=(2:Int) ^ (64 - s):=by rw[Int.natCast_pow];rfl
  have C:a / 2 ^ (64 - s)<=a:=Nat.div_le_self _ _;obtain⟨Y,m⟩:∃ Y,f * 2 ^ s=Y:=⟨_,rfl⟩;obtain⟨u,A⟩:∃ u,b * 2 ^ s+a / 2 ^ (64 - s)=u:=⟨_,rfl⟩;obtain⟨N,q⟩:∃ N,a * 2 ^ s % 18446744073709551616=N:=⟨_,rfl⟩;have D:N<18446744073709551616:=by omega
  have k:=j5k b (a / 2 ^ (64 - s)) s b2 b3 (by omega)
  rw[A]at e b1 k;rw[m]at l j b1;rw[q]at e
  have c:=q5r (b:Int) (a:Int) (f:Int) (Y:Int) ((Y:Int) / 4294967296) ((Y:Int) % 4294967296) ((b * 2 ^ s:Nat):Int) ((a / 2 ^ (64 - s):Nat):Int) (u:Int) (N:Int) ((N:Int) / 4294967296) ((N:Int) % 4294967296)
   _ _ _ s (by omega) h1 h i
   (by rw[<- hp,<- Int.natCast_mul,m,IntKind.wrap_u64];omega) rfl (and_low32 _ (by omega) (by omega))
   (by rw[<- hp,<- Int.natCast_mul,IntKind.wrap_u64];omega) (by rw[<- hp',<- Int.natCast_ediv]) k
   (by rw[<- hp,<- Int.natCast_mul,IntKind.wrap_u64,<- q];omega) rfl (and_low32 _ (by omega) (by omega))
   (by omega) (by omega) (by omega) (by omega) (by omega) (by show _=_;omega) (by show _<_;omega) (by omega) (by omega) (by omega) (by omega) rfl rfl rfl hc w
  have n:(Y:Int) / 4294967296 * 4294967296+(Y:Int) % 4294967296=(Y:Int):=by omega
  rw[n,q4X _ _ _ _ (by omega)]at c
  have o:(u:Int) * 18446744073709551616+(N:Int) / 4294967296 * 4294967296+(N:Int) % 4294967296=((b:Int) * 18446744073709551616+(a:Int)) * (2:Int) ^ s:=by
   have:(u:Int) * 18446744073709551616+(N:Int)=((b:Int) * 18446744073709551616+(a:Int)) * (2:Int) ^ s:=by
    rw[<- hp];have t:(((b * 18446744073709551616+a) * 2 ^ s:Nat):Int)=((u * 18446744073709551616+N:Nat):Int):=by rw[e]
    rw[Int.natCast_mul,Int.natCast_add,Int.natCast_mul,Int.natCast_add,Int.natCast_mul]at t;exact t.symm
   rw[<- this];omega
  rw[o,<- m,Int.natCast_mul,hp,q5M _ _ _ (Int.pow_pos (by decide))]at c
  exact c
/-! ### the answers -/
def mdN(a b c:Int):Int:=if a<0∨b<0∨c<1 then 0 else if a * b / c<=1125899906842624 then a * b / c else 0
def mdE(a b c:Int):Int:=if a<0∨b<0∨c<1 then 2 else if a * b / c<=1125899906842624 then 0 else 2
theorem j6U{a b c:Int}(h:a<0∨b<0∨c<1):mdN a b c=0/\mdE a b c=2:=by
 unfold mdN mdE;rw[if_pos h,if_pos h];exact⟨rfl,rfl⟩
theorem j4M{a b c:Int}(h:1125899906842624<a * b / c):mdN a b c=0/\mdE a b c=2:=by
 unfold mdN mdE;have:¬ a * b / c<=1125899906842624:=by omega
 by_cases g:a<0∨b<0∨c<1
 ·rw[if_pos g,if_pos g];exact⟨rfl,rfl⟩
 ·rw[if_neg g,if_neg g,if_neg this,if_neg this];exact⟨rfl,rfl⟩
theorem q9d{a b c:Int}(h1:0<=a)(h2:0<=b)(h3:1<=c)(h:a * b / c<=1125899906842624):mdN a b c=a * b / c/\mdE a b c=0:=by
 unfold mdN mdE;have g:¬ (a<0∨b<0∨c<1):=by omega
 rw[if_neg g,if_neg g,if_pos h,if_pos h];exact⟨rfl,rfl⟩
theorem q0q(a b c:Int)(u:0<=a)(C:a<=9223372036854775807)(b0:0<=b)(b1:b<=9223372036854775807)(c0:1<=c)(c1:c<=9223372036854775807)(w:World) :
  Calls prog 143 #[J I a,J I b,J I c] w fun e w'=>e=.returned (.tuple #[J I (mdN a b c),J I (mdE a b c)])/\Bl w w':=by
 have t1:¬ a<0:=by omega
 have G:¬ b<0:=by omega
 have H:¬ c<1:=by omega
 have o:=j8b a b u (by omega) b0 (by omega)
 have j:0<=a * b:=Int.mul_nonneg u b0
 have g:a * b<340282366920938463463374607431768211456:=by
  have:=Int.mul_le_mul C b1 b0 (by omega)
  omega
 have D:=Int.mul_ediv_add_emod (a * b) c;have f:Hid (a * b / c<=1125899906842624->mdN a b c=a * b / c/\mdE a b c=0):=fun h=>q9d u b0 c0 h;have d:Hid (1125899906842624<a * b / c->mdN a b c=0/\mdE a b c=2):=fun h=>j4M h
 have i:a * b / 18446744073709551616≥c->1125899906842624<a * b / c:=fun h=>by
  have:1125899906842625<=a * b / c:=by
   rw[Int.le_ediv_iff_mul_le (by omega)]
   omega
  omega
 have q:0<=a * b / c:=Int.ediv_nonneg j (by omega)
 generalize mdN a b c=X at *;generalize mdE a b c=Y at *;clear D;generalize a * b=p at *;obtain⟨s,k⟩:∃ h,p / 18446744073709551616=h:=⟨_,rfl⟩;obtain⟨t,m⟩:∃ l,p % 18446744073709551616=l:=⟨_,rfl⟩;have hp:s * 18446744073709551616+t=p:=by omega
 have v:0<=s:=by omega
 have x:0<=t:=by omega
 have y:t<18446744073709551616:=by omega
 rw[k]at i o;rw[m]at o
 by_cases hc:c<=s
 ·have E:=d.out (i hc);obtain⟨rfl,rfl⟩:=E;clear f d i k m hp j g q
  go_enter func143,ntmps143
  go_wp2_with (go_at_call 166;refine (o _).mono ?_;rintro e w'⟨rfl,rfl⟩)
  go_ret2;exact⟨rfl,⟨rfl,rfl,rfl,Nat.le_refl _,fun _ _=>rfl⟩⟩
 ·have cd:=j7B s t c v (by omega) x y (by omega)
  rw[hp]at cd;obtain⟨n,z⟩:∃ n,p / c=n:=⟨_,rfl⟩;rw[z]at cd f d q
  by_cases F:n<=1125899906842624
  ·obtain⟨rfl,rfl⟩:=f.out F;have A:¬ 1125899906842624<X:=by omega
   clear f d i k m hp j g z
   go_enter func143,ntmps143
   go_wp2_with (first | (go_at_call 166;refine (o _).mono ?_;rintro e w'⟨rfl,rfl⟩) | (go_at_call 167;refine (cd _).mono ?_;rintro e w'⟨r,rfl,B⟩))
   go_ret2;exact⟨rfl,B⟩
  ·obtain⟨rfl,rfl⟩:=d.out (by omega)
   have A:1125899906842624<n:=by omega
   clear f d i k m hp j g z
   go_enter func143,ntmps143
   go_wp2_with (first | (go_at_call 166;refine (o _).mono ?_;rintro e w'⟨rfl,rfl⟩) | (go_at_call 167;refine (cd _).mono ?_;rintro e w'⟨r,rfl,B⟩))
   go_ret2;exact⟨rfl,B⟩
theorem q4B(a b c:Int)(h:a<0∨b<0∨c<1)(w:World) :
  Calls prog 143 #[J I a,J I b,J I c] w fun e w'=>e=.returned (.tuple #[J I (mdN a b c),J I (mdE a b c)])/\Bl w w':=by
 obtain⟨d,f⟩:=j6U h;rw[d,f];clear d f
 by_cases t1:a<0
 ·clear h
  go_enter func143,ntmps143
  go_wp2;go_ret2;exact⟨rfl,⟨rfl,rfl,rfl,Nat.le_refl _,fun _ _=>rfl⟩⟩
 ·by_cases g:b<0
  ·clear h
   go_enter func143,ntmps143
   go_wp2;go_ret2;exact⟨rfl,⟨rfl,rfl,rfl,Nat.le_refl _,fun _ _=>rfl⟩⟩
  ·have i:c<1:=by omega
   clear h
   go_enter func143,ntmps143
   go_wp2;go_ret2;exact⟨rfl,⟨rfl,rfl,rfl,Nat.le_refl _,fun _ _=>rfl⟩⟩
theorem j2r(a b c:Int)(d:a<=9223372036854775807)(b1:b<=9223372036854775807)(c1:c<=9223372036854775807)(w:World) :
  Calls prog 143 #[J I a,J I b,J I c] w fun e w'=>e=.returned (.tuple #[J I (mdN a b c),J I (mdE a b c)])/\Bl w w':=by
 by_cases h:a<0∨b<0∨c<1
 ·exact q4B a b c h w
 ·exact q0q a b c (by omega) d (by omega) b1 (by omega) c1 w
def inB(n:Int):Bool:=decide (0<=n) && decide (n<=1125899906842624)
theorem j0y{n:Int}(h0:0<=n)(h1:n<=1125899906842624):inB n=true:=by simp[inB,h0,h1]
theorem j3y{n:Int}(h:¬ 0<=n):inB n=false:=by simp[inB,h]
theorem j1V{n:Int}(h:¬ n<=1125899906842624):inB n=false:=by simp[inB,h]
theorem q9k{n:Int}:inB n=true↔0<=n/\n<=1125899906842624:=by simp[inB]
theorem j8D(n:Int)(w:World):Calls prog 142 #[J I n] w fun e w'=>e=.returned (J3 (inB n))/\w'=w:=by
 by_cases h0:0<=n
 ·by_cases h1:n<=1125899906842624
  ·rw[j0y h0 h1]
   go_enter func142,ntmps142
   go_wp2;go_ret;exact⟨rfl,rfl⟩
  ·rw[j1V h1]
   go_enter func142,ntmps142
   go_wp2;go_ret;exact⟨rfl,rfl⟩
 ·rw[j3y h0]
  go_enter func142,ntmps142
  go_wp2;go_ret;exact⟨rfl,rfl⟩
def ptN(n f:Int):Int:=if inB n=true/\0<=f/\f<=1000 then n * f / 1000 else 0
def ptE(n f:Int):Int:=if inB n=true/\0<=f/\f<=1000 then 0 else 2
theorem q7A{n f:Int}(h:inB n=true/\0<=f/\f<=1000):ptN n f=n * f / 1000/\ptE n f=0:=by unfold ptN ptE;rw[if_pos h,if_pos h];exact⟨rfl,rfl⟩
theorem q6b{n f:Int}(h:¬ (inB n=true/\0<=f/\f<=1000)):ptN n f=0/\ptE n f=2:=by unfold ptN ptE;rw[if_neg h,if_neg h];exact⟨rfl,rfl⟩
theorem j7x{n f:Int}(h0:0<=n)(f0:0<=f)(f1:f<=1000):0<=n * f / 1000/\n * f / 1000<=n:=by
 have h1:0<=n * f:=Int.mul_nonneg h0 f0;have h2:=Int.mul_le_mul_of_nonneg_left f1 h0;omega
theorem j6B(n f:Int)(w:World):Calls prog 149 #[J I n,J I f] w fun e w'=>e=.returned (.tuple #[J I (ptN n f),J I (ptE n f)])/\Bl w w':=by
 have i:=j8D n
 by_cases d:inB n=true
 ·obtain⟨n0,n1⟩:=q9k.1 d
  by_cases f0:f<0
  ·obtain⟨g,h⟩:=q6b (n:=n) (f:=f) (by omega)
   rw[g,h];rw[d]at i;clear g h d
   go_enter func149,ntmps149
   go_wp2_with (go_at_call 142;refine (i _).mono ?_;rintro e w'⟨rfl,rfl⟩)
   go_ret2;exact⟨rfl,⟨rfl,rfl,rfl,Nat.le_refl _,fun _ _=>rfl⟩⟩
  ·by_cases f1:1000<f
   ·obtain⟨g,h⟩:=q6b (n:=n) (f:=f) (by omega)
    rw[g,h];rw[d]at i;clear g h d
    go_enter func149,ntmps149
    go_wp2_with (go_at_call 142;refine (i _).mono ?_;rintro e w'⟨rfl,rfl⟩)
    go_ret2;exact⟨rfl,⟨rfl,rfl,rfl,Nat.le_refl _,fun _ _=>rfl⟩⟩
   ·obtain⟨g,h⟩:=q7A (n:=n) (f:=f) ⟨d,by omega,by omega⟩
    have k:=j2r n f 1000 (by omega) (by omega) (by omega)
    have p:=j7x (n:=n) (f:=f) n0 (by omega) (by omega)
    obtain⟨l,m⟩:=q9d (a:=n) (b:=f) (c:=1000) n0 (by omega) (by omega) (by omega)
    rw[l,m]at k;rw[g,h];rw[d]at i;generalize n * f / 1000=x at *;clear g h l m d
    go_enter func149,ntmps149
    go_wp2_with (first | (go_at_call 142;refine (i _).mono ?_;rintro e w'⟨rfl,rfl⟩) | (go_at_call 143;refine (k _).mono ?_;rintro e w'⟨rfl,o⟩))
    go_ret2;exact⟨rfl,o⟩
 ·obtain⟨g,h⟩:=q6b (n:=n) (f:=f) (by simp[d])
  rw[g,h];have j:inB n=false:=by simpa using d
  rw[j]at i;clear g h d j
  go_enter func149,ntmps149
  go_wp2_with (go_at_call 142;refine (i _).mono ?_;rintro e w'⟨rfl,rfl⟩)
  go_ret2;exact⟨rfl,⟨rfl,rfl,rfl,Nat.le_refl _,fun _ _=>rfl⟩⟩
end Ra
section
open Go.RowKit
theorem j6v(w:World)(a:Option Addr)(n c:Nat):(binOp .eql 41 (J1 a n c) (J1 none 0 0)).run prog w=.ok (J3 a.isNone) w:=by
 simp[binOp,run_equal_slice_nil w 41 63 a n c underlying41]
theorem q9p(c:Nat)(w:World):Calls prog 38 #[J1 none 0 c] w fun e w'=>e=.returned (J1 none 0 0)/\w=w':=by
 have a:=fun w=>j6v w none 0 c
 go_enter func38,ntmps38
 go_wp2;go_ret;exact⟨rfl,rfl⟩
theorem j4L(W:List Wt):∀ u∈wsL W,u.oneCell'=true:=by
 intro u hu;obtain⟨x,_,a⟩:=List.mem_flatMap.1 hu
 simp[wtL]at a
 rcases a with rfl | rfl | rfl | rfl | rfl | rfl | rfl | rfl <;> rfl
theorem j2V(w:World):(w.alloc (J5 #[] 63)).ownsRow w.heap.size 63 8 (J1 (some ⟨w.heap.size,0,none⟩) 0 0) 0 []:=⟨rfl,.inr ⟨w.heap.size,0,#[],rfl,Nat.le_refl _,heap_alloc_new _ _,Nat.le_refl _,Nat.zero_le _,rfl,rfl⟩⟩
theorem q9Y(w:World)(a:Addr)(c sb so:Nat)(W:List Wt)(d:z2k w (some a) sb so W) :
  ∃ A C w',(Builtin.append_ #[41,41] 41 #[J1 (some ⟨w.heap.size,0,none⟩) 0 0,J1 (some a) W.length c]).run prog (w.alloc (J5 #[] 63))=.ok (J1 A W.length C) w'/\z2d w.heap.size w' A C W/\Bl w w':=by
 obtain⟨i0,m,e,f,h⟩:=info_parts q8H;have s:=d.len
 obtain⟨v',w',n,i,b,-,o⟩:=run_append_own_at (P:=prog) (w.alloc (J5 #[] 63)) w.heap.size 41 41 63 i0 _ 8 64 underlying41 m e f h rfl (by omega) _ 0 [] (j2V w) a W.length c (wsL W) (z1f W)
  (fun j u l=>by
   have h0:0<W.length:=by
    have:=(List.getElem?_eq_some_iff.1 l).1;rw[z1f]at this;omega
   have p:=d.adr h0;cases p;rw[Addr.add_lit]
   exact q3r (d.over (znw w _)) j u l) (j4L W) (by simp only[maxLen];omega) (by omega) (by simp)
 rw[Nat.zero_add,List.nil_append]at i
 have q:∃ A C,v'=J1 A W.length C:=by
  rcases i.2 with⟨rfl,h0⟩ | ⟨g,cap,cur,rfl,_⟩
  ·rw[h0];exact⟨none,0,rfl⟩
  ·exact⟨_,_,rfl⟩
 obtain⟨A,C,rfl⟩:=q;refine⟨A,C,w',n,i,?_⟩;have hb:=(Below.refl w.heap.size w).alloc (Nat.le_refl _) (J5 #[] 63);exact⟨b.os.trans hb.os,b.tape.trans hb.tape,b.output.trans hb.output,Nat.le_trans hb.size b.size,fun k r=>(b.block k (by simp;omega) (by simp[Value.ownBlock];omega)).trans (hb.block k r)⟩
theorem q7l{ops:Array Oper}{rest:List Oper}{o:Oper}{a:Act}{w:World}{Q:Exit->Act->World->Prop}(f:o.guard=none)(b:o.type=41)(p q:Operand)
  (d:o.op=Op.call { callee:=Callee.builtin Builtin.append,args:=#[p,q],argTypes:=#[41,41] }) (ad:Addr) (c sb so:Nat) (W:List Wt) (g:a.eval p=J1 (some ⟨w.heap.size,0,none⟩) 0 0) (h:a.eval q=J1 (some ad) W.length c) (i:z2k w (some ad) sb so W)
  (j:∀ A C w',z2d w.heap.size w' A C W/\Bl w w'->wpList prog ops Q rest (a.put o.dst (J1 A W.length C)) w'):wpList prog ops Q (o :: rest) a (w.alloc (J5 #[] 63)):=by
 refine wpList_plain f fun _ e=>?_;unfold Oper.wp;obtain⟨A,C,w',k,h1⟩:=q9Y w ad c sb so W i
 simp[execOp,d,resolve,invoke,builtin,g,h,b,k,Result.andThen]
 exact e _ _ (j _ _ _ h1)
theorem q4e(a:Addr)(W:List Wt)(c sb so:Nat)(w:World)(b:z2k w (some a) sb so W):Calls prog 38 #[J1 (some a) W.length c] w fun e w'=>∃ A C,e=.returned (J1 A W.length C)/\z2d w.heap.size w' A C W/\Bl w w':=by
 have g:=fun w=>j6v w (some a) W.length c
 go_enter func38,ntmps38
 go_upto_region 3 with fail
 apply wp_region_lit
 iterate 6 go_step
 refine q7l rfl rfl _ _ rfl a c sb so W rfl rfl b ?_;rintro A C w'⟨h1,h2⟩;have d:=J6 h1;have f:=J6 h2;clear h1 h2;go_wp2;go_ret;exact⟨A,C,rfl,d.out,f.out⟩
theorem z2T(ao:Option Addr)(W:List Wt)(c sb so:Nat)(w:World)(b:z2k w ao sb so W):Calls prog 38 #[J1 ao W.length c] w fun e w'=>∃ A C,e=.returned (J1 A W.length C)/\z2d w.heap.size w' A C W/\Bl w w':=by
 cases ao with
 | some a=>exact q4e a W c sb so w b
 | none =>
  have h0:W.length=0:=by
   rcases Nat.eq_zero_or_pos W.length with h0 | h0
   ·exact h0
   ·have:=b.adr h0;cases this
  obtain rfl:W=[]:=List.length_eq_zero_iff.1 h0;refine (q9p c w).mono ?_;rintro e w'⟨rfl,rfl⟩;exact⟨none,0,rfl,⟨rfl,.inl ⟨rfl,rfl⟩⟩,Below.refl _ _⟩
def j1F(x y:Int):Int:=if x<y then -1 else if y<x then 1 else 0
theorem j4a(x y:Int):j1F x y=if x<y then -1 else if y<x then 1 else 0:=rfl
def j1H(a b:Int×Int):Int:=j1F a.1 b.1
def j5v(a b:Int×Int):Int:=if a.2=b.2 then j1H a b else j1F b.2 a.2
theorem z7n(x:Int)(w:World):Calls prog 185 #[J I x] w fun e w'=>e=.returned (J3 false)/\w=w':=by
 go_enter func185,ntmps185
 go_wp2;go_ret;exact⟨by simp,rfl⟩
theorem q3G(x y:Int)(w:World):Calls prog 155 #[J I x,J I y] w fun e w'=>e=.returned (J I (j1F x y))/\w=w':=by
 have a:=J6 (j4a x y);generalize j1F x y=r at *
 go_enter func155,ntmps155
 go_wp2_with (go_at_call 185;refine (z7n _ _).mono ?_;rintro e w1⟨rfl,rfl⟩)
 all_goals (go_ret;refine⟨?_,rfl⟩;have h:=a.out;first | (simp_all;done) | (simp_all;omega) | (rw[h,if_neg (by omega),if_neg (by omega)];rfl) | (rw[h,if_neg (by omega),if_pos (by omega)];rfl) | (rw[h,if_pos (by omega)];rfl))
theorem z6q(a b:Int×Int)(w:World):Calls prog 114 #[J4 #[J I a.1,J I a.2],J4 #[J I b.1,J I b.2]] w fun e w'=>e=.returned (J I (j1H a b))/\Bl w w':=by
 have hc:=q3G a.1 b.1;unfold j1H;generalize j1F a.1 b.1=r at *
 go_enter func114,ntmps114
 go_wp2_with (go_at_call 155;refine (hc _).mono ?_;rintro e w1⟨rfl,rfl⟩)
 go_ret;exact⟨rfl,(znw _ _).alloc (by simp) _⟩
theorem q1I(a b:Int×Int)(w:World):Calls prog 113 #[J4 #[J I a.1,J I a.2],J4 #[J I b.1,J I b.2]] w fun e w'=>e=.returned (J I (j5v a b))/\Bl w w':=by
 have hc:=q3G b.2 a.2;have c:=fun w=>z6q a b w
 by_cases h:a.2=b.2
 ·have e:j5v a b=j1H a b:=if_pos h;rw[e];generalize j1H a b=r at *;have hb:(a.2 != b.2)=false:=by simpa using h
  clear hc;obtain⟨d,f⟩:=a;obtain⟨b1,b2⟩:=b;simp only at *;subst h
  go_enter func113,ntmps113
  go_wp2_with (go_at_call 114;refine (c _).mono ?_;rintro e w1⟨rfl,h1⟩)
  go_ret;exact⟨rfl,((znw _ _).alloc (by simp) _).trans (h1.mono (by simp;omega))⟩
 ·have e:j5v a b=j1F b.2 a.2:=if_neg h;rw[e];generalize j1F b.2 a.2=r at *;have hb:(a.2 != b.2)=true:=by simpa using h
  go_enter func113,ntmps113
  go_wp2_with (go_at_call 155;refine (hc _).mono ?_;rintro e w1⟨rfl,rfl⟩)
  go_ret;exact⟨rfl,(znw _ _).alloc (by simp) _⟩
theorem z7l{n:Int}(h0:-9223372036854775808<=n)(h1:n<9223372036854775808):IntKind.i64.wrap n=n:=by
 rw[IntKind.wrap_i64];omega
abbrev Pw:=Int×Int
def pz:Pw:=(0,0)
def swapAt(l:List Pw)(p:Nat):List Pw:=(l.set (p+1) (l.getD p pz)).set p (l.getD (p+1) pz)
def z7O(lt:Pw->Pw->Bool):Nat->List Pw->List Pw
 | 0,l=>l
 | p+1,l=>if lt (l.getD (p+1) pz) (l.getD p pz)=true then z7O lt p (swapAt l p) else l
def z1n(lt:Pw->Pw->Bool)(l:List Pw):Nat->List Pw
 | 0=>l
 | m+1=>z7O lt (m+1) (z1n lt l m)
def z2s(lt:Pw->Pw->Bool)(l:List Pw):List Pw:=z1n lt l (l.length - 1)
def ltV(a b:Pw):Bool:=decide (j1H a b<0)
def ltP(a b:Pw):Bool:=decide (j5v a b<0)
def z1K(w:World)(g:Nat)(l:List Pw):Prop:=∃ a,w.heap[g]?=some (J5 a 65 (0,0))/\∀ i x,l[i]?=some x->a[i * 2]?=some (J I x.1)/\a[i * 2+1]?=some (J I x.2)
theorem z3c(l:List Pw)(p:Nat):(swapAt l p).length=l.length:=by simp[swapAt]
theorem z8Y(lt:Pw->Pw->Bool):∀ (j:Nat) (l:List Pw),(z7O lt j l).length=l.length
 | 0,_=>rfl
 | p+1,l=>by rw[z7O];split;rw[z8Y lt p,z3c];rfl
theorem z1O(lt:Pw->Pw->Bool)(l:List Pw):∀ m,(z1n lt l m).length=l.length
 | 0=>rfl
 | m+1=>by rw[z1n,z8Y,z1O lt l m]
structure z2M(g:Nat)(w w':World):Prop where
 os:w'.os=w.os
 tape:w'.tape=w.tape
 output:w'.output=w.output
 size:w.heap.size<=w'.heap.size
 block:∀ k,k<w.heap.size->k≠g->w'.heap[k]?=w.heap[k]?
theorem z2M.refl(g:Nat)(w:World):z2M g w w:=⟨rfl,rfl,rfl,Nat.le_refl _,fun _ _ _=>rfl⟩
theorem z2M.trans{g:Nat}{a b c:World}(h:z2M g a b)(k:z2M g b c):z2M g a c:=
 ⟨k.os.trans h.os,k.tape.trans h.tape,k.output.trans h.output,Nat.le_trans h.size k.size,fun i d e=>(k.block i (Nat.lt_of_lt_of_le d h.size) e).trans (h.block i d e)⟩
theorem z2M.of_below{g:Nat}{a b:World}(h:Bl a b):z2M g a b:=⟨h.os,h.tape,h.output,h.size,fun k c _=>h.block k c⟩
theorem z2M.set{g:Nat}{w w':World}(h:z2M g w w')(o:Nat)(v:Value):z2M g w (w'.setCell ⟨g,o,none⟩ v):=
 ⟨h.os,h.tape,h.output,(by simp[World.setCell];exact h.size),fun k b a=>(Below.heap_setCell _ _ _ _ a).trans (h.block k b a)⟩
theorem z2M.drew{g:Nat}{w w':World}(h:z2M g w w'):z2M g w w'.drew:=⟨h.os,h.tape,h.output,h.size,h.block⟩
theorem z2M.drewN{g:Nat}{w w':World}(h:z2M g w w')(n:Nat):z2M g w (w'.drewN n):=⟨h.os,h.tape,h.output,h.size,h.block⟩
theorem z2M.below{g B:Nat}{w w':World}(h:z2M g w w')(a:B<=g)(b:B<=w.heap.size):Below B w w':=⟨h.os,h.tape,h.output,h.size,fun k c=>h.block k (by omega) (by omega)⟩
theorem z1K.later{w w':World}{g:Nat}{l:List Pw}(h:z1K w g l)(hb:Bl w w'):z1K w' g l:=by
 obtain⟨a,hc,b⟩:=h;exact⟨a,(hb.block g (Array.getElem?_eq_some_iff.1 hc).1).trans hc,b⟩
theorem z1K.cell{w:World}{g:Nat}{l:List Pw}(h:z1K w g l){i:Nat}(a:i<l.length):w.cell? ⟨g,i * 2,none⟩=some (J I (l.getD i pz).1)/\w.cell? ⟨g,i * 2+1,none⟩=some (J I (l.getD i pz).2):=by
 obtain⟨b,hc,c⟩:=h;have e:l[i]?=some (l.getD i pz):=by simp[List.getD,a]
 obtain⟨h1,h2⟩:=c i _ e;simp only[World.cell?,hc]
 simp[h1,h2]
theorem z1K.free{w:World}{g:Nat}{l:List Pw}(h:z1K w g l)(o:Nat):w.frozen? ⟨g,o,none⟩=false:=by
 obtain⟨a,hc,_⟩:=h
 simp[World.frozen?,hc]
theorem z1K.lt{w:World}{g:Nat}{l:List Pw}(h:z1K w g l):g<w.heap.size:=by
 obtain⟨a,hc,_⟩:=h;exact (Array.getElem?_eq_some_iff.1 hc).1
theorem z1K.put{w:World}{g:Nat}{l:List Pw}(h:z1K w g l){i:Nat}(c:i<l.length)(x:Pw):z1K ((w.setCell ⟨g,i * 2,none⟩ (J I x.1)).setCell ⟨g,i * 2+1,none⟩ (J I x.2)) g (l.set i x):=by
 have f:=h.cell c;obtain⟨a,hc,d⟩:=h
 have k:i * 2<a.size:=by
  have:=(d i _ (List.getElem?_eq_getElem c)).1;exact (Array.getElem?_eq_some_iff.1 this).1
 have m:i * 2+1<a.size:=by
  have:=(d i _ (List.getElem?_eq_getElem c)).2;exact (Array.getElem?_eq_some_iff.1 this).1
 refine⟨(a.setIfInBounds (i * 2) (J I x.1)).setIfInBounds (i * 2+1) (J I x.2),?_,fun j y b=>?_⟩
 ·simp[World.setCell,Array.getElem?_modify,hc]
 ·rw[List.getElem?_set]at b
  by_cases e:i=j
  ·subst e;rw[if_pos rfl,if_pos c]at b
   simp at b
   subst b
   simp[k,m]
  ·rw[if_neg e]at b;obtain⟨h1,h2⟩:=d j y b;simp only[Array.getElem?_setIfInBounds];rw[if_neg (by omega),if_neg (by omega),if_neg (by omega),if_neg (by omega)]
   exact⟨h1,h2⟩
end
namespace Mt
open Go.RowKit
def I64(a:Int):Prop:=-9223372036854775808<=a/\a<=9223372036854775807
def alw(a:Int):Int:=if a<5 then 1 else a / 5
theorem j7s(a:Int):1<=alw a:=by unfold alw;split <;> omega
theorem z0u(w:World)(o:Obj):Bl w (w.alloc o):=znw _ o
theorem z1N{w w1 a:World}(h:Bl w w1)(k:Bl w1 a):Bl w a:=zbt h k
theorem j8y{a:Int}(h:I64 a)(b:5<=a):wrap64 (a.tdiv 5)=a / 5:=by
 unfold I64 at h;rw[Int.tdiv_eq_ediv_of_nonneg (by omega)]
 unfold wrap64;omega
theorem j7K{a:Int}(h:I64 a)(b:a<5):∃ q,wrap64 (a.tdiv 5)=q/\q<1:=by
 refine⟨_,rfl,?_⟩;unfold I64 at h
 by_cases h0:0<=a
 ·rw[Int.tdiv_eq_ediv_of_nonneg (by omega)]
  unfold wrap64;omega
 ·have e:a.tdiv 5=-((-a) / 5):=by
   rw[show a=-(-a) by omega,Int.neg_tdiv,Int.tdiv_eq_ediv_of_nonneg (by omega)]
   simp
  rw[e];unfold wrap64;omega
theorem j3A(a:Int)(h:I64 a)(w:World):Calls prog 53 #[J I a] w fun e w'=>e=.returned (J I (alw a))/\w=w':=by
 by_cases b:a<5
 ·obtain⟨q,d,c⟩:=j7K h b;rw[show alw a=1 from if_pos b];clear b h
  go_enter func53,ntmps53
  go_wp2;go_ret;exact⟨rfl,rfl⟩
 ·have d:=j8y h (by omega)
  rw[show alw a=a / 5 from if_neg b];have c:1<=a / 5:=by omega
  generalize a / 5=q at *;clear b h
  go_enter func53,ntmps53
  go_wp2;go_ret;exact⟨rfl,rfl⟩
def MAt(w:World)(b:Nat)(l n:Int):Prop:=w.heap[b]?=some (J5 #[J I l,J I n] 55)
section
variable {w w':World} {b B:Nat} {l n:Int}
theorem MAt.later(h:MAt w b l n)(hb:Below B w w')(a:b<B):MAt w' b l n:=(hb.block b a).trans h
theorem MAt.new(w:World)(l n:Int):MAt (w.alloc (J5 #[J I l,J I n] 55)) w.heap.size l n:=heap_alloc_new _ _
theorem MAt.new2(w:World)(o:Obj)(l n:Int):MAt ((w.alloc o).alloc (J5 #[J I l,J I n] 55)) (w.heap.size+1) l n:=by
 have:=MAt.new (w.alloc o) l n
 rwa [show (w.alloc o).heap.size=w.heap.size+1 by simp]at this
theorem MAt.lt(h:MAt w b l n):b<w.heap.size:=(Array.getElem?_eq_some_iff.1 h).1
theorem MAt.facts(h:MAt w b l n):(w.cell? ⟨b,0,none⟩=some (J I l)/\w.cell? ⟨b,1,none⟩=some (J I n))/\(w.frozen? ⟨b,0,none⟩=false/\w.frozen? ⟨b,1,none⟩=false):=by
 unfold MAt at h
 simp[World.cell?,World.frozen?,h]
theorem MAt.set(h:MAt w b l n)(a c:Int):MAt ((w.setCell ⟨b,0,none⟩ (J I a)).setCell ⟨b,1,none⟩ (J I c)) b a c:=by
 unfold MAt at *
 simp[World.setCell,Array.getElem?_modify,h]
end
theorem z7G{f:Func}{p:Tmp}(a:f.results=#[.cell p 55]){w wq:World}{g:Nat}{l n:Int}(R:MAt wq g l n)(H:Bl w wq)(act:Act)(c:act.tmps.getD p undef=J2 (some ⟨g,0,none⟩))(hd:act.defers=[]) :
  bodyPost prog f (fun e w'=>e=.returned (J4 #[J I l,J I n])/\Bl w w') Exit.ret act wq:=by
 obtain⟨⟨d,u1⟩,-⟩:=R.facts;have b:act.tmps[p]?.getD undef=J2 (some ⟨g,0,none⟩):=by simpa using c
 exact bodyPost_ret (v:=J4 #[J I l,J I n]) (by simp[results,a,go_sem,b,d,u1]) hd ⟨rfl,H⟩
theorem z9d{f:Func}{p q:Tmp}(a:f.results=#[.cell p 55,.tmp q]){w wq:World}{g:Nat}{l n:Int}{t:Bool}(R:MAt wq g l n)(H:Bl w wq)(act:Act)(d:act.tmps.getD p undef=J2 (some ⟨g,0,none⟩))(h:act.tmps.getD q undef=J3 t)(hd:act.defers=[]) :
  bodyPost prog f (fun e w'=>e=.returned (.tuple #[J4 #[J I l,J I n],J3 t])/\Bl w w') Exit.ret act wq:=by
 obtain⟨⟨i,u1⟩,-⟩:=R.facts;have b:act.tmps[p]?.getD undef=J2 (some ⟨g,0,none⟩):=by simpa using d
 have c:act.tmps[q]?.getD undef=J3 t:=by simpa using h
 exact bodyPost_ret (v:=.tuple #[J4 #[J I l,J I n],J3 t]) (by simp[results,a,go_sem,b,c,i,u1]) hd ⟨rfl,H⟩
theorem z9H(w:World)(o p:Obj):Bl w ((w.alloc o).alloc p):=(z0u w o).alloc (by simp) p
theorem q3p(a t:Int)(h:I64 a)(w:World):Calls prog 31 #[J I a,J I t] w fun e w'=>e=.returned (J4 #[J I (alw a),J I (wrap64 (t+10))])/\Bl w w':=by
 have b:=j3A a h;generalize alw a=A at *
 go_enter func31,ntmps31
 go_wp2_with (go_at_call 53;refine (b _).mono ?_;rintro e c⟨rfl,rfl⟩)
 exact z7G results31 (MAt.new _ _ _) (z0u w _) _ rfl rfl
theorem q7H(l n a t:Int)(h:I64 a)(w:World):Calls prog 75 #[J4 #[J I l,J I n],J I a,J I t] w fun e w'=>e=.returned (J4 #[J I (if t<n then l else alw a),J I (if t<n then n else wrap64 (t+10))])/\Bl w w':=by
 have d:=q3p a t h;generalize alw a=A at *;generalize wrap64 (t+10)=T at *
 by_cases b:t<n
 ·rw[if_pos b,if_pos b]
  go_enter func75,ntmps75
  go_wp2;exact z7G results75 (MAt.new2 _ _ _ _) (z9H w _ _) _ rfl rfl
 ·rw[if_neg b,if_neg b];have R:=MAt.new2 w (J5 #[J I l,J I n] 55) 0 0;have B:=z9H w (J5 #[J I l,J I n] 55) (J5 #[J I 0,J I 0] 55)
  go_enter func75,ntmps75
  go_upto_region 3 with fail
  generalize ((w.alloc (J5 #[J I l,J I n] 55)).alloc (J5 #[J I 0,J I 0] 55))=w1 at *
  go_wp2_with (go_at_call 31;refine (d _).mono ?_;rintro e f⟨rfl,hb⟩;have c:=R.later hb R.lt;obtain⟨⟨c0,c1⟩,⟨f0,f1⟩⟩:=c.facts)
  exact z7G results75 (c.set _ _) (((z1N B hb).setCell (Nat.le_succ _) _).setCell (Nat.le_succ _) _) _ rfl rfl
theorem q7t(l n a:Int)(w:World):Calls prog 172 #[J4 #[J I l,J I n],J I a] w fun e w'=>e=.returned (.tuple #[J4 #[J I (if l<1 then l else wrap64 (l - a)),J I n],J3 (if l<1 then false else true)])/\Bl w w':=by
 by_cases b:l<1
 ·rw[if_pos b,if_pos b]
  go_enter func172,ntmps172
  go_wp2;exact z9d results172 (MAt.new2 _ _ _ _) (z9H w _ _) _ rfl rfl rfl
 ·rw[if_neg b,if_neg b]
  go_enter func172,ntmps172
  go_wp2;exact z9d results172 (MAt.new2 _ _ _ _) (z9H w _ _) _ rfl rfl rfl
end Mt
end Go.Proofs.YtddlhnoedldidaaGreat
