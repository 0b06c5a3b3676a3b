/- Parts of the proof. -/
import Derived.Test.YtddlhnoedldidaaGreatGL
import Derived.Test.YtddlhnoedldidaaGreatGK6
import Derived.Test.YtddlhnoedldidaaGreatGK8
import Derived.Deep.MidRow
import Derived.OneCell
import Derived.OwnWalk
import Derived.Deep.OwnRows
import Derived.WideShapes
import Derived.Laws.BytesArg
import Derived.Deep.SlicePairs
import Derived.Deep.RegionLaw
import Derived.ChangeKeysEq
import Derived.OpenShut
import Derived.Deep.Slices
import Derived.SizedLaws
import Derived.Laws.Bits64b
import Derived.Deep.RegionHeld3
import Derived.Deep.RegionWith
set_option maxRecDepth 100000
set_option maxHeartbeats 16000000
namespace Go.Proofs.YtddlhnoedldidaaGreat
open Go.Proofs.Tryz
open Value renaming int->J,slice->J1,pointer->J2,bool->J3,agg->J4
open IntKind renaming i64->I
open Obj renaming cells->J5
section
open Go.RowKit
def spl(cs:Array Value):Nat->List Value->Array Value
 | _,[]=>cs
 | o,v :: r=>spl (cs.setIfInBounds o v) (o+1) r
theorem q3v:∀ (a:List Value) (cs:Array Value) (o i:Nat),o+a.length<=cs.size->(spl cs o a)[i]?=if o<=i/\i<o+a.length then a[i - o]? else cs[i]?
 | [],cs,o,i,_=>by simp[spl];intro h1 h2;omega
 | v :: r,cs,o,i,h=>by
  simp only[List.length_cons]at h;rw[spl,q3v r _ (o+1) i (by simp;omega)]
  by_cases e:i=o
  ·subst e;have:i<cs.size:=by omega
   simp[this]
   intro h1;omega
  ·by_cases h1:o+1<=i/\i<o+1+r.length
   ·rw[if_pos h1,if_pos ⟨by omega,by simp;omega⟩]
    obtain⟨j,rfl⟩:∃ j,i=o+1+j:=⟨i - (o+1),by omega⟩
    rw[show o+1+j - (o+1)=j by omega,show o+1+j - o=j+1 by omega]
    simp
   ·rw[if_neg h1,if_neg (by simp;omega),Array.getElem?_setIfInBounds_ne (by omega)]
theorem q9y{cs ds:Array Value}(h:ds.size=cs.size):spl cs 0 ds.toList=ds:=by
 apply Array.ext_getElem?;intro i;rw[q3v _ _ _ _ (by simp;omega)]
 by_cases a:i<ds.size
 ·rw[if_pos ⟨by omega,by simp;omega⟩];simp
 ·rw[if_neg (by simp;omega),Array.getElem?_eq_none (by omega),Array.getElem?_eq_none (by omega)]
theorem z0b{B b:Nat}{a:World}(c:B<=b):∀ (d:List Value) (o:Nat) (w:World),Below B a w->Below B a (w.setCells b o d)
 | [],_,_,h=>h
 | v :: r,o,_,h=>z0b c r (o+1) _ (h.setCell c v)
theorem z1l{b k:Nat}(a:k≠b):∀ (c:List Value) (o:Nat) (w:World),(w.setCells b o c).heap[k]?=w.heap[k]?
 | [],_,_=>rfl
 | _ :: r,o,_=>(z1l a r (o+1) _).trans (Below.heap_setCell _ _ _ _ a)
end
namespace Pv
open Go.RowKit
theorem J6{p:Prop}(h:p):Hid p:=h
def CAt(ty:TypeId)(w:World)(b:Nat)(cs:Array Value):Prop:=w.heap[b]?=some (J5 cs ty)
section
variable {ty:TypeId} {w w':World} {b B:Nat} {cs:Array Value}
theorem CAt.new(ty:TypeId)(w:World)(cs:Array Value):CAt ty (w.alloc (J5 cs ty)) w.heap.size cs:=heap_alloc_new _ _
theorem CAt.new2(ty:TypeId)(w:World)(o:Obj)(cs:Array Value):CAt ty ((w.alloc o).alloc (J5 cs ty)) (w.heap.size+1) cs:=by
 have h:=CAt.new ty (w.alloc o) cs
 rwa [show (w.alloc o).heap.size=w.heap.size+1 by simp]at h
theorem CAt.later(h:CAt ty w b cs)(hb:Below B w w')(a:b<B):CAt ty w' b cs:=(hb.block b a).trans h
theorem CAt.lt(h:CAt ty w b cs):b<w.heap.size:=(Array.getElem?_eq_some_iff.1 h).1
theorem CAt.over(h:CAt ty w b cs)(hb:Bl w w'):CAt ty w' b cs:=h.later hb h.lt
theorem CAt.alloc(h:CAt ty w b cs)(o:Obj):CAt ty (w.alloc o) b cs:=(Below.heap_alloc _ _ _ h.lt).trans h
theorem CAt.keep(h:CAt ty w b cs)(a:w'.heap[b]?=w.heap[b]?):CAt ty w' b cs:=a.trans h
theorem CAt.other{c o:Nat}(h:CAt ty w b cs)(hb:b≠c)(v:Value):CAt ty (w.setCell ⟨c,o,none⟩ v) b cs:=(Below.heap_setCell _ _ _ _ hb).trans h
theorem CAt.others{c o:Nat}(h:CAt ty w b cs)(hb:b≠c)(a:List Value):CAt ty (w.setCells c o a) b cs:=(z1l hb _ _ _).trans h
theorem CAt.cell(h:CAt ty w b cs)(o:Nat):w.cell? ⟨b,o,none⟩=cs[o]?:=by
 unfold CAt at h
 simp[World.cell?,h]
theorem CAt.free(h:CAt ty w b cs)(o:Nat):w.frozen? ⟨b,o,none⟩=false:=by
 unfold CAt at h
 simp[World.frozen?,h]
theorem CAt.set(h:CAt ty w b cs)(o:Nat)(v:Value):CAt ty (w.setCell ⟨b,o,none⟩ v) b (cs.setIfInBounds o v):=by
 unfold CAt at *
 simp[World.setCell,Array.getElem?_modify,h]
theorem CAt.range(h:CAt ty w b cs):w.rangeAt b 0 cs.toList:=by
 intro j v a;rw[Nat.zero_add,h.cell]
 simpa using a
theorem CAt.part(h:CAt ty w b cs){o:Nat}{ds:List Value}(hd:∀ j v,ds[j]?=some v->cs[o+j]?=some v):w.rangeAt b o ds:=by
 intro j v a;rw[h.cell];exact hd j v a
theorem CAt.there(h:CAt ty w b cs)(o n:Nat)(a:o+n<=cs.size):w.there b o n:=by
 intro j c;rw[h.cell,h.free];have:o+j<cs.size:=by omega
 simp[this]
theorem CAt.sets:∀ (a:List Value) (o:Nat) (w:World) (cs:Array Value),CAt ty w b cs->CAt ty (w.setCells b o a) b (spl cs o a)
 | [],_,_,_,h=>h
 | v :: r,o,_,_,h=>CAt.sets r (o+1) _ _ (h.set o v)
theorem CAt.z0L{ds:Array Value}(h:CAt ty w b cs)(hd:ds.size=cs.size):CAt ty (w.setCells b 0 ds.toList) b ds:=by
 have:=CAt.sets ds.toList 0 w cs h
 rwa [q9y hd]at this
end
def Rep(P:Nat->Prop)(w:World)(v:Value)(sz bts:Nat)(cs:List Value):Prop:=
 ∃ (A:Option Addr) (n C:Nat),v=J1 A n C/\cs.length=n * sz/\n * bts<=140737488351232/\((A=none->C=0)/\n<=C) /\
  (0<n->∃ b off,A=some ⟨b,off,none⟩/\P b/\b<w.heap.size/\∀ j u,cs[j]?=some u->w.cell? ⟨b,off+j,none⟩=some u)
section
variable {P P':Nat->Prop} {w w':World} {v:Value} {sz bts:Nat} {cs:List Value}
theorem Rep.nil(P:Nat->Prop)(w:World)(sz bts:Nat):Rep P w (J1 none 0 0) sz bts []:=⟨none,0,0,rfl,by simp,by simp,⟨fun _=>rfl,Nat.le_refl _⟩,fun h=>absurd h (by omega)⟩
theorem Rep.mono(h:Rep P w v sz bts cs)(hp:∀ b,b<w.heap.size->P b->P' b):Rep P' w v sz bts cs:=by
 obtain⟨A,n,C,h1,h2,h3,c,d⟩:=h;refine⟨A,n,C,h1,h2,h3,c,fun h0=>?_⟩;obtain⟨b,off,e,f,a,g⟩:=d h0;exact⟨b,off,e,hp b a f,a,g⟩
theorem Rep.keep(h:Rep P w v sz bts cs)(g:∀ b,P b->b<w.heap.size->w'.heap[b]?=w.heap[b]?):Rep P w' v sz bts cs:=by
 obtain⟨A,n,C,h1,h2,h3,i,k⟩:=h;refine⟨A,n,C,h1,h2,h3,i,fun h0=>?_⟩;obtain⟨b,off,l,c,d,m⟩:=k h0
 have f:b<w'.heap.size:=by
  have e:=g b c d;rw[Array.getElem?_eq_getElem d]at e;exact (Array.getElem?_eq_some_iff.1 e).1
 refine⟨b,off,l,c,f,fun j u hu=>?_⟩;rw[<- m j u hu];exact World.cell?_of_block (w:=w) (a:=⟨b,off+j,none⟩) (g b c d)
theorem Rep.over(h:Rep P w v sz bts cs)(hb:Bl w w'):Rep P w' v sz bts cs:=h.keep fun b _ a=>hb.block b a
theorem Rep.open(h:Rep P w v sz bts cs){n:Nat}(d:cs.length=n * sz)(f:0<sz):∃ (A:Option Addr) (C:Nat),v=J1 A n C/\n * bts<=140737488351232/\(A=none->n=0/\C=0)/\(0<n->∃ b off,A=some ⟨b,off,none⟩/\P b/\b<w.heap.size/\∀ j u,cs[j]?=some u->w.cell? ⟨b,off+j,none⟩=some u)/\(∀ ad,A=some ad->∀ j u,cs[j]?=some u->w.cell? (ad.add j)=some u):=by
 obtain⟨A,m,C,h1,h2,h3,g,a⟩:=h;have e:m=n:=Nat.eq_of_mul_eq_mul_right f (h2.symm.trans d);subst e;refine⟨A,C,h1,h3,fun e=>⟨?_,g.1 e⟩,a,fun ad e j u hu=>?_⟩
 ·rcases Nat.eq_zero_or_pos m with h0 | h0
  ·exact h0
  ·obtain⟨b,off,c,_⟩:=a h0;rw[c]at e;cases e
 ·rcases Nat.eq_zero_or_pos m with h0 | h0
  ·subst h0;have:=(List.getElem?_eq_some_iff.1 hu).1;omega
  ·obtain⟨b,off,c,_,_,i⟩:=a h0;rw[c]at e;cases e;rw[Addr.add_lit];exact i j u hu
theorem Rep.room(h:Rep P w v sz bts cs){A:Option Addr}{n C:Nat}(b:v=J1 A n C):n<=C/\(A=none->C=0):=by
 obtain⟨A',c,C',h1,_,_,a,_⟩:=h;rw[b]at h1;cases h1;exact⟨a.2,a.1⟩
theorem Rep.own{base n:Nat}{e:TypeId}(h:w.ownsRow base e sz v n cs)(hb:n * bts<=140737488351232):Rep (fun b=>base<=b) w v sz bts cs:=by
 rcases h.2 with⟨hv,hn⟩ | ⟨g,cap,cur,hv,h1,h2,h3,_⟩
 ·exact⟨none,0,0,hv,by rw[h.1,hn],by omega,⟨fun _=>rfl,Nat.le_refl _⟩,fun h=>absurd h (by omega)⟩
 ·subst hv;refine⟨_,n,cap,rfl,h.1,hb,⟨fun h=>(by cases h),h3⟩,fun _=>⟨g,0,rfl,h1,(Array.getElem?_eq_some_iff.1 h2).1,fun j u hu=>?_⟩⟩
  have:=World.ownsRow.cells h (g:=g) rfl j u hu
  rwa [Addr.add_lit]at this
end
def pwC(l:List (Int×Int)):List Value:=l.flatMap fun x=>[J I x.1,J I x.2]
def inC(l:List Int):List Value:=l.map (.int .i64)
def txC(l:List ByteArray):List Value:=l.map .string
theorem z0c:∀ l:List (Int×Int),(pwC l).length=l.length * 2
 | []=>rfl
 | x :: l=>by show (_ ++ pwC l).length=_;rw[List.length_append,z0c l,List.length_cons];simp;omega
theorem z0s(l:List Int):(inC l).length=l.length * 1:=by simp[inC]
theorem z2a(l:List ByteArray):(txC l).length=l.length * 1:=by simp[txC]
theorem z2j:∀ (l:List (Int×Int)) (i:Nat),i<l.length->(pwC l)[i * 2]?=some (J I (l.getD i (0,0)).1)/\(pwC l)[i * 2+1]?=some (J I (l.getD i (0,0)).2)
 | [],i,h=>absurd h (by simp)
 | x :: l,0,_=>⟨rfl,rfl⟩
 | x :: l,i+1,h=>by
  have:=z2j l i (by simpa using h)
  rw[show (i+1) * 2=i * 2+2 by omega]
  exact this
theorem z4F(l:List Int)(i:Nat)(h:i<l.length):(inC l)[i]?=some (J I (l.getD i 0)):=by simp[inC,List.getD,h]
theorem z8h(l:List ByteArray)(i:Nat)(h:i<l.length):(txC l)[i]?=some (.string (l.getD i ByteArray.empty)):=by simp[txC,List.getD,h]
theorem z6U(l:List (Int×Int)):∀ u∈pwC l,u.oneCell'=true:=fun u hu=>by
 simp only[pwC,List.mem_flatMap,List.mem_cons,List.not_mem_nil,or_false]at hu;obtain⟨x,_,rfl | rfl⟩:=hu <;> rfl
structure Pkt where
 k:Int
 i:Int
 v:Int
 n:Int
 S:List (Int×Int)
 D:List Int
def q3H:List Nat->Code->Code
 | [],c=>c
 | 0 :: p,.seq a _=>q3H p a
 | 1 :: p,.seq _ b=>q3H p b
 | _ :: p,.block _ c=>q3H p c
 | _ :: p,.loop c=>q3H p c
 | 1 :: p,.cond _ a _=>q3H p a
 | 2 :: p,.cond _ _ b=>q3H p b
 | _,_=>.skip
end Pv
namespace Ln
open Go.RowKit
structure Line where
 S:List ByteArray
 D:List Int
 g:Int
 cl:Bool
def z1i(w:World)(b off:Nat)(l:List Int):Prop:=∀ i,i<l.length->w.cell? ⟨b,off+i,none⟩=some (J I (l.getD i 0))
def z3L(w:World)(b off:Nat)(l:List ByteArray):Prop:=∀ i,i<l.length->w.cell? ⟨b,off+i,none⟩=some (.string (l.getD i ByteArray.empty))
theorem z1i.z4Q{B:Nat}{w w':World}{b off:Nat}{l:List Int}(h:z1i w b off l)(hb:Below B w w')(a:0<l.length->b<B):z1i w' b off l:=fun i c =>
 (hb.cell (p:=⟨b,off+i,none⟩) (a (by omega))).trans (h i c)
theorem z3L.z4Q{B:Nat}{w w':World}{b off:Nat}{l:List ByteArray}(h:z3L w b off l)(hb:Below B w w')(a:0<l.length->b<B):z3L w' b off l:=fun i c =>
 (hb.cell (p:=⟨b,off+i,none⟩) (a (by omega))).trans (h i c)
theorem z1i.later{w w':World}{b off:Nat}{l:List Int}(h:z1i w b off l)(hb:Bl w w'):z1i w' b off l:=fun i a =>
 (hb.cell (p:=⟨b,off+i,none⟩) (World.block_lt_of_cell? w _ (h i a))).trans (h i a)
theorem z3L.later{w w':World}{b off:Nat}{l:List ByteArray}(h:z3L w b off l)(hb:Bl w w'):z3L w' b off l:=fun i a =>
 (hb.cell (p:=⟨b,off+i,none⟩) (World.block_lt_of_cell? w _ (h i a))).trans (h i a)
structure LAt(w:World)(x:Line)(sa da:Option Addr)(cs cd sb so db dO:Nat):Prop where
 hls:x.S.length * 16<=140737488351232
 hld:x.D.length * 8<=140737488351232
 hsa:0<x.S.length->sa=some ⟨sb,so,none⟩
 hda:0<x.D.length->da=some ⟨db,dO,none⟩
 ncs:sa=none->cs=0
 ncd:da=none->cd=0
 PS:z3L w sb so x.S
 PD:z1i w db dO x.D
theorem LAt.later{w w':World}{x:Line}{sa da:Option Addr}{cs cd sb so db dO:Nat}(h:LAt w x sa da cs cd sb so db dO)(hb:Bl w w'):LAt w' x sa da cs cd sb so db dO:=
 ⟨h.hls,h.hld,h.hsa,h.hda,h.ncs,h.ncd,h.PS.later hb,h.PD.later hb⟩
theorem LAt.ltS{w:World}{x:Line}{sa da:Option Addr}{cs cd sb so db dO:Nat}(h:LAt w x sa da cs cd sb so db dO)(h0:0<x.S.length):sb<w.heap.size:=World.block_lt_of_cell? w _ (h.PS 0 h0)
theorem LAt.ltD{w:World}{x:Line}{sa da:Option Addr}{cs cd sb so db dO:Nat}(h:LAt w x sa da cs cd sb so db dO)(h0:0<x.D.length):db<w.heap.size:=World.block_lt_of_cell? w _ (h.PD 0 h0)
theorem LAt.z4Q{B:Nat}{w w':World}{x:Line}{sa da:Option Addr}{cs cd sb so db dO:Nat}(h:LAt w x sa da cs cd sb so db dO)(hb:Below B w w')(a:0<x.S.length->sb<B)(b:0<x.D.length->db<B):LAt w' x sa da cs cd sb so db dO:=
 ⟨h.hls,h.hld,h.hsa,h.hda,h.ncs,h.ncd,h.PS.z4Q hb a,h.PD.z4Q hb b⟩
theorem J6{p:Prop}(h:p):Hid p:=h
theorem z0A(w:World)(o:Obj):Bl w (w.alloc o):=znw _ o
theorem z3b{w w':World}{o:Obj}(h:Below (w.alloc o).heap.size (w.alloc o) w'):Bl w w':=
 (z0A w o).trans (h.mono (by simp))
theorem z2g{w w1 a:World}(h:Bl w w1)(k:Bl w1 a):Bl w a:=zbt h k
theorem q6b{W w1:World}(hb:Bl W w1):(∀ b o,b<W.heap.size->w1.cell? ⟨b,o,none⟩=W.cell? ⟨b,o,none⟩)/\(∀ b o,b<W.heap.size->w1.frozen? ⟨b,o,none⟩=W.frozen? ⟨b,o,none⟩):=
 ⟨fun b o h=>hb.cell (p:=⟨b,o,none⟩) h,fun b o h=>hb.frozen (p:=⟨b,o,none⟩) h⟩
theorem y1o{a b:ByteArray}(h:a≠b):(a.toList == b.toList)=false:=by
 rw[ByteArray.toList_eq,ByteArray.toList_eq]
 simpa using fun h2:a.data.toList=b.data.toList=>h (WideShapes.bytes_inj h2)
def nonneg(l:List Int):Bool:=l.all fun d=>decide (0<=d)
theorem q3e{l:List Int}{k:Nat}(h:nonneg (l.take k)=true)(a:k<l.length)(hd:0<=l.getD k 0):nonneg (l.take (k+1))=true:=by
 rw[List.take_succ_eq_append_getElem a]
 simp[List.getD,a]at hd
 unfold nonneg at *;rw[List.all_append,h]
 simp[hd]
theorem q6r{l:List Int}{k:Nat}(a:k<l.length)(hd:l.getD k 0<0):nonneg l=false:=by
 simp[List.getD,a]at hd
 simp only[nonneg,List.all_eq_false,decide_eq_true_eq];exact⟨l[k],List.getElem_mem a,by omega⟩
def z1a(x:Line):Bool:=decide (x.D.length=x.S.length) && decide (x.S.length<=400) && nonneg x.D && decide (0<=x.g) && decide (x.g<=x.S.length)
def z4i(x:Line):Int:=if z1a x=false then 2 else if x.cl=true then 11 else 0
def z5O(x:Line)(due:Int):Int:=if due<0 then 2 else if z4i x≠0 then z4i x else if 400<=x.S.length then 6 else 0
def z4C(x:Line)(s:ByteArray)(due:Int):Line:=if z5O x due=0 then ⟨x.S ++ [s],x.D ++ [due],x.g,x.cl⟩ else x
def z4B(x:Line)(k:Int)(s:ByteArray)(said now:Int):Int:=
 if z4i x≠0 then z4i x else if k≠x.g+1 then 10 else if said<k∨(x.S.length:Int)<k∨x.S.getD (k - 1).toNat ByteArray.empty≠s then 9
 else if x.D.getD (k - 1).toNat 0<=now then 12 else 0
def z5L(x:Line)(k:Int)(s:ByteArray)(said now:Int):Line:=if z4B x k s said now=0 then ⟨x.S,x.D,k,x.cl⟩ else x
def z6h(x:Line)(k time got:Int):Int:=
 if z4i x≠0 then z4i x else if k<1∨(x.S.length:Int)<k then 4 else if k<=got then 5 else if time<x.D.getD (k - 1).toNat 0 then 13 else 0
def z4N(x:Line)(k time got:Int):Line:=if z6h x k time got=0 then ⟨x.S,x.D,x.g,true⟩ else x
theorem z7P{x:Line}(h:z1a x=true):x.D.length=x.S.length/\x.S.length<=400/\0<=x.g/\x.g<=x.S.length:=by
 simp[z1a]at h
 omega
theorem z8q{x:Line}(h:z4i x=0):z1a x=true/\x.cl=false:=by
 unfold z4i at h
 split at h
 ·omega
 split at h
 ·omega
 exact⟨by simpa using ‹¬ z1a x=false›,by simpa using ‹¬ x.cl=true›⟩
theorem q2X(x:Line) :
  (x.D.length≠x.S.length/\z1a x=false)∨(x.D.length=x.S.length/\400<x.S.length/\z1a x=false) ∨
  (x.D.length=x.S.length/\x.S.length<=400/\(nonneg x.D=false->z1a x=false)/\(nonneg x.D=true->z1a x=(decide (0<=x.g) && decide (x.g<=x.S.length)))):=by
 by_cases h1:x.D.length=x.S.length
 ·right
  by_cases h2:x.S.length<=400
  ·right
   exact⟨h1,h2,fun h3=>by simp[z1a,h3],fun h3=>by simp[z1a,h1,h2,h3]⟩
  ·left
   exact⟨h1,by omega,by simp[z1a,h2]⟩
 ·left
  exact⟨h1,by simp[z1a,h1]⟩
theorem z0p(x:Line)(sa da:Option Addr)(cs cd sb so db dO:Nat)(w:World)(L:LAt w x sa da cs cd sb so db dO) :
  Calls prog 140 #[J4 #[J1 sa x.S.length cs,J1 da x.D.length cd,J I x.g,J3 x.cl]] w fun e w'=>e=.returned (J3 (z1a x))/\Bl w w':=by
 obtain⟨S,D,g,cl⟩:=x;have l:=q2X ⟨S,D,g,cl⟩;obtain⟨hls,hld,hsa,hda,-,-,PS,PD⟩:=L;have a:Hid (∀ o,Bl w (w.alloc o)):=fun o=>z0A w o;have m:Hid (0<D.length->da=some ⟨db,dO,none⟩):=hda;have n:Hid (z1i w db dO D):=PD;clear hsa hda PS PD;dsimp only at *;generalize z1a ⟨S,D,g,cl⟩=G at *
 rcases l with⟨h1,rfl⟩ | ⟨h1,h2,rfl⟩ | ⟨h1,h2,h3,h4⟩
 ·have d:((D.length:Int) != (S.length:Int))=true:=by simp;omega
  clear h1
  go_enter func140,ntmps140
  go_wp2;go_ret;exact⟨rfl,a.out _⟩
 ·have d:((D.length:Int) != (S.length:Int))=false:=by simp;omega
  clear h1
  go_enter func140,ntmps140
  go_wp2;go_ret;exact⟨rfl,a.out _⟩
 ·have d:((D.length:Int) != (S.length:Int))=false:=by simp;omega
  have t:D.length<=400:=by omega
  have r:Hid ((nonneg D=false->G=false)/\(nonneg D=true->G=(decide (0<=g) && decide (g<=S.length)))):=⟨h3,h4⟩;clear h1 h3 h4
  go_enter func140,ntmps140
  go_wp2
  go_loop [21] (fun i=>∃ (k:Nat),k<=D.length/\i=J I (k:Int)/\Hid (nonneg (D.take k)=true)) (fun i=>D.length - (intOf i).toNat)
  case atStart=>exact⟨0,Nat.zero_le _,rfl,by simp[Hid,nonneg]⟩
  case round =>
   obtain⟨k,u,rfl,HR⟩:=hrel
   by_cases b:k<D.length
   ·have hcell:=(n.out.later (a.out (J5 #[J1 sa S.length cs,J1 da D.length cd,J I g,J3 cl] 48))) k b;obtain⟨y,p⟩:∃ y,D.getD k 0=y:=⟨_,rfl⟩;rw[p]at hcell;have s:Hid (D.getD k 0=y):=p;clear p;have e:=m.out (by omega)
    subst e
    by_cases q:y<0
    ·go_wp2;go_ret;exact⟨by rw[r.out.1 (q6r b (by rw[s.out];exact q))];rfl,a.out _⟩
    ·go_wp2
     go_round
     case rel=>exact⟨k+1,by omega,by go_num,q3e HR.out b (by rw[s.out];omega)⟩
     case measure=>simp[intOf];omega
   ·have c:=r.out.2 (by have:=HR.out;rwa [List.take_of_length_le (by omega)]at this)
    by_cases f:0<=g
    ·by_cases h:g<=(S.length:Int)
     ·have j:Hid (G=true):=by show _=_;rw[c];simp[f,h]
      clear c;go_wp2;go_ret;exact⟨by rw[j.out];rfl,a.out _⟩
     ·have j:Hid (G=false):=by show _=_;rw[c];simp[h]
      clear c;go_wp2;go_ret;exact⟨by rw[j.out];rfl,a.out _⟩
    ·have j:Hid (G=false):=by show _=_;rw[c];simp[f]
     clear c;go_wp2;go_ret;exact⟨by rw[j.out];rfl,a.out _⟩
theorem q3y(x:Line)(sa da:Option Addr)(cs cd sb so db dO:Nat)(w:World)(L:LAt w x sa da cs cd sb so db dO) :
  Calls prog 124 #[J4 #[J1 sa x.S.length cs,J1 da x.D.length cd,J I x.g,J3 x.cl]] w fun e w'=>e=.returned (J I (z4i x))/\Bl w w':=by
 have b:=z0p x sa da cs cd sb so db dO _ (L.later (z0A w (J5 #[J1 sa x.S.length cs,J1 da x.D.length cd,J I x.g,J3 x.cl] 48)));clear L;obtain⟨S,D,g,cl⟩:=x;unfold z4i;dsimp only at *;generalize z1a ⟨S,D,g,cl⟩=G at *;cases G <;> cases cl
 all_goals go_enter func124,ntmps124
 all_goals go_wp2_with (go_at_call 140;refine b.mono ?_;rintro e w1⟨rfl,hb⟩;obtain⟨hc,c⟩:=q6b hb;have a:Hid (Bl w w1):=z3b hb;clear hb)
 all_goals go_ret
 all_goals exact⟨rfl,a.out⟩
theorem q8N(x:Line)(sa da:Option Addr)(cs cd:Nat)(k:Int)(w:World) :
  Calls prog 125 #[J4 #[J1 sa x.S.length cs,J1 da x.D.length cd,J I x.g,J3 x.cl],J I k] w fun e w'=>e=.returned (J3 (decide (1<=k) && decide (k<=x.S.length)))/\Bl w w':=by
 obtain⟨S,D,g,cl⟩:=x;dsimp only at *
 by_cases h1:1<=k
 ·by_cases h2:k<=(S.length:Int)
  ·rw[show (decide (1<=k) && decide (k<=(S.length:Int)))=true by simp[h1,h2]]
   go_enter func125,ntmps125
   go_wp2;go_ret;exact⟨rfl,z0A _ _⟩
  ·rw[show (decide (1<=k) && decide (k<=(S.length:Int)))=false by simp[h2]]
   go_enter func125,ntmps125
   go_wp2;go_ret;exact⟨rfl,z0A _ _⟩
 ·rw[show (decide (1<=k) && decide (k<=(S.length:Int)))=false by simp[h1]]
  go_enter func125,ntmps125
  go_wp2;go_ret;exact⟨rfl,z0A _ _⟩
theorem j8y:(prog.info? 9).map (fun i=>(i.zero,i.size,i.bytes))=some (some (.string ⟨#[]⟩),1,16):=by kernel_rfl
theorem j9i:(prog.info? 3).map (fun i=>(i.zero,i.size,i.bytes))=some (some (J I 0),1,8):=by kernel_rfl
theorem j2T{B:Nat}{w:World}{g n c e:Nat}{l:List ByteArray}(h:w.ownsRow B e 1 (J1 (some ⟨g,0,none⟩) n c) n (l.map .string)):B<=g/\g<w.heap.size/\z3L w g 0 l:=by
  rcases h.2 with⟨h1,_⟩ | ⟨g',cap,cur,hv,hb,hg,hn,hm,hs,ht⟩
  · cases h1
  · cases hv
    refine⟨hb,(Array.getElem?_eq_some_iff.1 hg).1,fun i a=>?_⟩;have b:l.length=n:=by have:=h.1;simpa using this
    have:(cur.toList.take (n * 1))[i]?=some (.string (l.getD i ByteArray.empty)):=by rw[ht];simp[List.getD,a]
    rw[List.getElem?_take_of_lt (by omega)]at this
    simp only[World.cell?,hg,Nat.zero_add]
    simpa using this
theorem j2N{B:Nat}{w:World}{g n c e:Nat}{l:List Int}(h:w.ownsRow B e 1 (J1 (some ⟨g,0,none⟩) n c) n (l.map (.int .i64))):B<=g/\g<w.heap.size/\z1i w g 0 l:=by
  rcases h.2 with⟨h1,_⟩ | ⟨g',cap,cur,hv,hb,hg,hn,hm,hs,ht⟩
  · cases h1
  · cases hv
    refine⟨hb,(Array.getElem?_eq_some_iff.1 hg).1,fun i a=>?_⟩;have b:l.length=n:=by have:=h.1;simpa using this
    have:(cur.toList.take (n * 1))[i]?=some (J I (l.getD i 0)):=by rw[ht];simp[List.getD,a]
    rw[List.getElem?_take_of_lt (by omega)]at this
    simp only[World.cell?,hg,Nat.zero_add]
    simpa using this
theorem q7v{w:World}{b off:Nat}{l:List ByteArray}{a:Option Addr}(d:0<l.length->a=some ⟨b,off,none⟩)(hc:z3L w b off l):∀ ad,a=some ad->∀ j u,(l.map Value.string)[j]?=some u->w.cell? (ad.add j)=some u:=by
  intro ad e j u hu;have c:j<l.length:=by have:=(List.getElem?_eq_some_iff.1 hu).1;simpa using this
  rw[d (by omega)]at e
  cases e;rw[Addr.add_lit,hc j c]
  simp[c]at hu
  simp[List.getD,c,hu]
theorem j0L(l:List ByteArray)(a:Option Addr)(c b off:Nat)(s:ByteArray)(w:World)(P:l.length<=400)(r:0<l.length->a=some ⟨b,off,none⟩)(H:a=none->c=0)(hc:z3L w b off l) :
    Calls prog 158 #[J1 a l.length c,Value.string s] w fun e w'=>∃ g C,e=.returned (J1 (some ⟨g,0,none⟩) (l ++ [s]).length C)/\w.heap.size<=g/\g<w'.heap.size/\z3L w' g 0 (l ++ [s])/\Bl w w':=by
  obtain⟨i0,v,x,d,y⟩:=info_parts j8y;have z:i0.bytes * (l.length+1)<=281474976710656:=by rw[y];omega
  have A:l.length+1<=maxLen:=by unfold maxLen;omega
  have B:a=none->l.length=0/\c=0:=fun e=>by
    refine⟨?_,H e⟩
    rcases Nat.eq_zero_or_pos l.length with h | h
    · exact h
    · rw[r h]at e;cases e
  have K:Hid (0<l.length->a=some ⟨b,off,none⟩):=r;have HD:Hid (z3L w b off l):=hc
  have D:∀ u∈l.map Value.string,u.oneCell'=true:=fun u hu=>by
    simp at hu
    obtain⟨t,_,rfl⟩:=hu;rfl
  clear r hc H
  go_enter func158,ntmps158
  go_wp2_with (first
    | (refine wpList_make_own _ rfl _ _ 46 rfl w.heap.size 9 i0 _ 1 underlying46 v x d .i64 .i64 _ (l.length+1) rfl rfl ?_ z A (Nat.le_refl _) ?_
       · first | omega | simp
       intro w1 i j;have E:=(Below.refl w.heap.size w).grown j (Nat.le_refl _) (fun k m=>by cases m)
       have n:=J6 E;have sc:=q7v K.out (HD.out.later E)
       clear E j)
    | (have _m:=sc
       at_builtin
       refine wpList_append_fits_any _ rfl _ _ 46 rfl w.heap.size 9 i0 1 underlying46 v d w.heap.size 0 (l.length+1) [] rfl i a l.length c (l.map Value.string) rfl (by simp) B sc D (by omega) ?_
       intro L o p;have f:=J6 (n.out.grown p n.out.size (fun k m=>by cases m;exact Nat.le_refl _))
       rw[List.nil_append,Nat.zero_add]at o
       clear p sc i)
    | (at_builtin
       refine wpList_append_fits _ rfl _ _ 46 rfl w.heap.size 9 i0 1 underlying46 v d w.heap.size l.length (l.length+1) (l.map Value.string) ?_ (World.ownsRow.alloc o _) ⟨L.heap.size,0,none⟩ 1 1 [Value.string s] rfl rfl (cell_one_new _ _ _) (by simp[Value.oneCell']) (by omega) ?_
       · first | rfl | simp
       intro Q q F
       have G:=J6 ((f.out.alloc f.out.size _).grown F (Nat.le_trans f.out.size (by simp)) (fun k m=>by cases m;exact Nat.le_refl _))))
  go_ret;rw[show l.map Value.string ++ [Value.string s]=(l ++ [s]).map Value.string by simp]at q
  obtain⟨R,M,N⟩:=j2T q;exact⟨w.heap.size,l.length+1,by simp,Nat.le_refl _,M,N,G.out⟩
theorem q8L{w:World}{b off:Nat}{l:List Int}{a:Option Addr}(d:0<l.length->a=some ⟨b,off,none⟩)(hc:z1i w b off l):∀ ad,a=some ad->∀ j u,(l.map (Value.int .i64))[j]?=some u->w.cell? (ad.add j)=some u:=by
  intro ad e j u hu;have c:j<l.length:=by have:=(List.getElem?_eq_some_iff.1 hu).1;simpa using this
  rw[d (by omega)]at e
  cases e;rw[Addr.add_lit,hc j c]
  simp[c]at hu
  simp[List.getD,c,hu]
theorem j0b(l:List Int)(a:Option Addr)(c b off:Nat)(s:Int)(w:World)(P:l.length<=400)(r:0<l.length->a=some ⟨b,off,none⟩)(H:a=none->c=0)(hc:z1i w b off l) :
    Calls prog 159 #[J1 a l.length c,(Value.int .i64) s] w fun e w'=>∃ g C,e=.returned (J1 (some ⟨g,0,none⟩) (l ++ [s]).length C)/\w.heap.size<=g/\g<w'.heap.size/\z1i w' g 0 (l ++ [s])/\Bl w w':=by
  obtain⟨i0,v,x,d,y⟩:=info_parts j9i;have z:i0.bytes * (l.length+1)<=281474976710656:=by rw[y];omega
  have A:l.length+1<=maxLen:=by unfold maxLen;omega
  have B:a=none->l.length=0/\c=0:=fun e=>by
    refine⟨?_,H e⟩
    rcases Nat.eq_zero_or_pos l.length with h | h
    · exact h
    · rw[r h]at e;cases e
  have K:Hid (0<l.length->a=some ⟨b,off,none⟩):=r;have HD:Hid (z1i w b off l):=hc
  have D:∀ u∈l.map (Value.int .i64),u.oneCell'=true:=fun u hu=>by
    simp at hu
    obtain⟨t,_,rfl⟩:=hu;rfl
  clear r hc H
  go_enter func159,ntmps159
  go_wp2_with (first
    | (refine wpList_make_own _ rfl _ _ 45 rfl w.heap.size 3 i0 _ 1 underlying45 v x d .i64 .i64 _ (l.length+1) rfl rfl ?_ z A (Nat.le_refl _) ?_
       · first | omega | simp
       intro w1 i j;have E:=(Below.refl w.heap.size w).grown j (Nat.le_refl _) (fun k m=>by cases m)
       have n:=J6 E;have sc:=q8L K.out (HD.out.later E)
       clear E j)
    | (have _m:=sc
       at_builtin
       refine wpList_append_fits_any _ rfl _ _ 45 rfl w.heap.size 3 i0 1 underlying45 v d w.heap.size 0 (l.length+1) [] rfl i a l.length c (l.map (Value.int .i64)) rfl (by simp) B sc D (by omega) ?_
       intro L o p;have f:=J6 (n.out.grown p n.out.size (fun k m=>by cases m;exact Nat.le_refl _))
       rw[List.nil_append,Nat.zero_add]at o
       clear p sc i)
    | (at_builtin
       refine wpList_append_fits _ rfl _ _ 45 rfl w.heap.size 3 i0 1 underlying45 v d w.heap.size l.length (l.length+1) (l.map (Value.int .i64)) ?_ (World.ownsRow.alloc o _) ⟨L.heap.size,0,none⟩ 1 1 [(Value.int .i64) s] rfl rfl (cell_one_new _ _ _) (by simp[Value.oneCell']) (by omega) ?_
       · first | rfl | simp
       intro Q q F
       have G:=J6 ((f.out.alloc f.out.size _).grown F (Nat.le_trans f.out.size (by simp)) (fun k m=>by cases m;exact Nat.le_refl _))))
  go_ret;rw[show l.map (Value.int .i64) ++ [(Value.int .i64) s]=(l ++ [s]).map (Value.int .i64) by simp]at q
  obtain⟨R,M,N⟩:=j2N q;exact⟨w.heap.size,l.length+1,by simp,Nat.le_refl _,M,N,G.out⟩
end Ln
namespace Ln
open Go.RowKit
def LVX(c a b:Nat)(d:Line)(B:Nat)(w:World)(x:Line)(v:Value):Prop:=
 ∃ sa da cs cd sb so db dO,v=J4 #[J1 sa x.S.length cs,J1 da x.D.length cd,J I x.g,J3 x.cl]/\LAt w x sa da cs cd sb so db dO/\(0<x.S.length->sb<B/\((sb=a/\x.S=d.S)∨c<=sb))/\(0<x.D.length->db<B/\((db=b/\x.D=d.D)∨c<=db))
def Ans(a b:Nat)(c:Line)(w:World)(r:Line×Int)(e:Ending)(w':World):Prop:=∃ v,e=.returned (.tuple #[v,J I r.2])/\LVX w.heap.size a b c w'.heap.size w' r.1 v/\Bl w w'
def FAt(w:World)(b:Nat)(v0 v1 v2 v3:Value):Prop:=w.heap[b]?=some (J5 #[v0,v1,v2,v3] 48)
section
variable {w w':World} {b B:Nat} {v0 v1 v2 v3:Value}
theorem FAt.later(h:FAt w b v0 v1 v2 v3)(hb:Below B w w')(a:b<B):FAt w' b v0 v1 v2 v3:=(hb.block b a).trans h
theorem FAt.new(w:World)(v0 v1 v2 v3:Value):FAt (w.alloc (J5 #[v0,v1,v2,v3] 48)) w.heap.size v0 v1 v2 v3:=heap_alloc_new _ _
theorem FAt.lt(h:FAt w b v0 v1 v2 v3):b<w.heap.size:=(Array.getElem?_eq_some_iff.1 h).1
theorem FAt.alloc(h:FAt w b v0 v1 v2 v3)(o:Obj):FAt (w.alloc o) b v0 v1 v2 v3:=(Below.heap_alloc _ _ _ h.lt).trans h
theorem FAt.other{c o:Nat}(h:FAt w b v0 v1 v2 v3)(hb:b≠c)(v:Value):FAt (w.setCell ⟨c,o,none⟩ v) b v0 v1 v2 v3:=(Below.heap_setCell _ _ _ _ hb).trans h
theorem FAt.facts(h:FAt w b v0 v1 v2 v3):(w.cell? ⟨b,0,none⟩=some v0/\w.cell? ⟨b,1,none⟩=some v1/\w.cell? ⟨b,2,none⟩=some v2/\w.cell? ⟨b,3,none⟩=some v3)/\(w.frozen? ⟨b,0,none⟩=false/\w.frozen? ⟨b,1,none⟩=false/\w.frozen? ⟨b,2,none⟩=false/\w.frozen? ⟨b,3,none⟩=false):=by
 unfold FAt at h
 simp[World.cell?,World.frozen?,h]
theorem FAt.j1e(h:FAt w b v0 v1 v2 v3)(v:Value):FAt (w.setCell ⟨b,0,none⟩ v) b v v1 v2 v3:=by
 unfold FAt at *
 simp[World.setCell,Array.getElem?_modify,h]
theorem FAt.q9q(h:FAt w b v0 v1 v2 v3)(v:Value):FAt (w.setCell ⟨b,1,none⟩ v) b v0 v v2 v3:=by
 unfold FAt at *
 simp[World.setCell,Array.getElem?_modify,h]
theorem FAt.j0x(h:FAt w b v0 v1 v2 v3)(v:Value):FAt (w.setCell ⟨b,2,none⟩ v) b v0 v1 v v3:=by
 unfold FAt at *
 simp[World.setCell,Array.getElem?_modify,h]
theorem FAt.q9j(h:FAt w b v0 v1 v2 v3)(v:Value):FAt (w.setCell ⟨b,3,none⟩ v) b v0 v1 v2 v:=by
 unfold FAt at *
 simp[World.setCell,Array.getElem?_modify,h]
end
def j1A(w:World)(b:Nat)(v0 v1 v2 v3:Value):World:=(((w.setCell ⟨b,0,none⟩ v0).setCell ⟨b,1,none⟩ v1).setCell ⟨b,2,none⟩ v2).setCell ⟨b,3,none⟩ v3
theorem j6P{w:World}{b:Nat}{a u1 u2 c:Value}(h:FAt w b a u1 u2 c)(v0 v1 v2 v3:Value):FAt (j1A w b v0 v1 v2 v3) b v0 v1 v2 v3:=(((h.j1e v0).q9q v1).j0x v2).q9j v3
theorem q5T{B:Nat}{w0 w:World}{b:Nat}(v0 v1 v2 v3:Value)(h:Below B w0 w)(a:B<=b):Below B w0 (j1A w b v0 v1 v2 v3):=(((h.setCell a _).setCell a _).setCell a _).setCell a _
theorem z9R{w:World}{b:Nat}(v0 v1 v2 v3:Value){c:Nat}(hc:c≠b):(j1A w b v0 v1 v2 v3).heap[c]?=w.heap[c]?:=by
 unfold j1A;rw[Below.heap_setCell _ _ _ _ hc,Below.heap_setCell _ _ _ _ hc,Below.heap_setCell _ _ _ _ hc,Below.heap_setCell _ _ _ _ hc]
theorem cell_of_heap{w w':World}{b:Nat}(h:w'.heap[b]?=w.heap[b]?)(o:Nat):w'.cell? ⟨b,o,none⟩=w.cell? ⟨b,o,none⟩:=World.cell?_of_block (w:=w) (a:=⟨b,o,none⟩) h
theorem q3c{w:World}{b c o:Nat}{v:Value}(h:c≠b)(k:Nat):(w.setCell ⟨b,o,none⟩ v).cell? ⟨c,k,none⟩=w.cell? ⟨c,k,none⟩:=cell_of_heap (Below.heap_setCell _ _ _ _ h) k
theorem LAt.set{w w':World}{x:Line}{sa da:Option Addr}{cs cd sb so db dO:Nat}(h:LAt w x sa da cs cd sb so db dO)(b:0<x.S.length->w'.heap[sb]?=w.heap[sb]?)(c:0<x.D.length->w'.heap[db]?=w.heap[db]?):LAt w' x sa da cs cd sb so db dO:=
 ⟨h.hls,h.hld,h.hsa,h.hda,h.ncs,h.ncd,fun i a=>(cell_of_heap (b (by omega)) _).trans (h.PS i a),fun i a=>(cell_of_heap (c (by omega)) _).trans (h.PD i a)⟩
theorem z7u{f:Func}{p q:Tmp}(a:f.results=#[.cell p 48,.tmp q]){w wq:World}{b:Nat}{u u1 u2 y:Value}(R:FAt wq b u u1 u2 y)(H:Bl w wq)(z:w.heap.size<=b)(x:Line)(sa da:Option Addr)(cs cd sb so db dO:Nat)(L:LAt wq x sa da cs cd sb so db dO)
  (A:0<x.S.length->sb≠b) (B:0<x.D.length->db≠b) {c d:Nat} {j:Line} (k:0<x.S.length->(sb=c/\x.S=j.S)∨w.heap.size<=sb) (l:0<x.D.length->(db=d/\x.D=j.D)∨w.heap.size<=db) (s t:Nat) (C:s=x.S.length) (E:t=x.D.length) (i:Int) (r:Line×Int) (F:r=(x,i)) (act:Act)
  (G:act.tmps.getD p undef=J2 (some ⟨b,0,none⟩)) (K:act.tmps.getD q undef=J I i) (hd:act.defers=[]) :
  bodyPost prog f (fun e w'=>Ans c d j w r e w') Exit.ret act (j1A wq b (J1 sa s cs) (J1 da t cd) (J I x.g) (J3 x.cl)):=by
 subst F C E;have M:=j6P R (J1 sa x.S.length cs) (J1 da x.D.length cd) (J I x.g) (J3 x.cl);have N:=q5T (J1 sa x.S.length cs) (J1 da x.D.length cd) (J I x.g) (J3 x.cl) H z;have m:LAt (j1A wq b (J1 sa x.S.length cs) (J1 da x.D.length cd) (J I x.g) (J3 x.cl)) x sa da cs cd sb so db dO:=L.set (fun h=>z9R _ _ _ _ (A h)) (fun h=>z9R _ _ _ _ (B h));generalize j1A wq b (J1 sa x.S.length cs) (J1 da x.D.length cd) (J I x.g) (J3 x.cl)=w9 at *;obtain⟨⟨c0,c1,c2,c3⟩,-⟩:=M.facts;have n:act.tmps[p]?.getD undef=J2 (some ⟨b,0,none⟩):=by simpa using G
 have o:act.tmps[q]?.getD undef=J I i:=by simpa using K
 exact bodyPost_ret (v:=.tuple #[J4 #[J1 sa x.S.length cs,J1 da x.D.length cd,J I x.g,J3 x.cl],J I i]) (by simp[results,a,go_sem,n,o,c0,c1,c2,c3]) hd ⟨_,rfl,⟨sa,da,cs,cd,sb,so,db,dO,rfl,m,fun h=>⟨m.ltS h,k h⟩,fun h=>⟨m.ltD h,l h⟩⟩,N⟩
theorem j0a(x:Line)(s:ByteArray)(due:Int) :
  (due<0/\(z4C x s due,z5O x due)=(x,2))∨(0<=due/\z4i x≠0/\(z4C x s due,z5O x due)=(x,z4i x))∨(0<=due/\z4i x=0/\400<=x.S.length/\(z4C x s due,z5O x due)=(x,6)) ∨
  (0<=due/\z4i x=0/\x.S.length<400/\(z4C x s due,z5O x due)=(⟨x.S ++ [s],x.D ++ [due],x.g,x.cl⟩,0)):=by
 unfold z4C
 by_cases h1:due<0
 ·left;simp[z5O,h1]
 right
 by_cases h2:z4i x=0
 ·right
  by_cases h3:400<=x.S.length
  ·left;refine⟨by omega,h2,h3,?_⟩;simp[z5O,h1,h2,h3]
  ·right;refine⟨by omega,h2,by omega,?_⟩;simp[z5O,h1,h2,h3]
 ·left;refine⟨by omega,h2,?_⟩;simp[z5O,h1,h2]
theorem FAt.new2(w:World)(o:Obj)(v0 v1 v2 v3:Value):FAt ((w.alloc o).alloc (J5 #[v0,v1,v2,v3] 48)) (w.heap.size+1) v0 v1 v2 v3:=by
 have:=FAt.new (w.alloc o) v0 v1 v2 v3
 rwa [show (w.alloc o).heap.size=w.heap.size+1 by simp]at this
structure q5R(w w0:World)(x:Line)(sa da:Option Addr)(cs cd sb so db dO:Nat):Prop where
 F1:FAt w0 w.heap.size (J1 sa x.S.length cs) (J1 da x.D.length cd) (J I x.g) (J3 x.cl)
 F2:FAt w0 (w.heap.size+1) (J1 none 0 0) (J1 none 0 0) (J I 0) (J3 false)
 L:LAt w0 x sa da cs cd sb so db dO
 ltS:0<x.S.length->sb<w.heap.size
 ltD:0<x.D.length->db<w.heap.size
 below:Bl w w0
 size:w.heap.size+2<=w0.heap.size
theorem begun{w:World}{x:Line}{sa da:Option Addr}{cs cd sb so db dO:Nat}(L:LAt w x sa da cs cd sb so db dO):q5R w ((w.alloc (J5 #[J1 sa x.S.length cs,J1 da x.D.length cd,J I x.g,J3 x.cl] 48)).alloc (J5 #[J1 none 0 0,J1 none 0 0,J I 0,J3 false] 48)) x sa da cs cd sb so db dO:=by
 have hb:Bl w ((w.alloc (J5 #[J1 sa x.S.length cs,J1 da x.D.length cd,J I x.g,J3 x.cl] 48)).alloc (J5 #[J1 none 0 0,J1 none 0 0,J I 0,J3 false] 48)):=(z0A w _).alloc (by simp) _
 exact⟨(FAt.new w _ _ _ _).alloc _,FAt.new2 w _ _ _ _ _,L.later hb,L.ltS,L.ltD,hb,by simp⟩
theorem q5R.over{w w0 w1:World}{x:Line}{sa da:Option Addr}{cs cd sb so db dO:Nat}(h:q5R w w0 x sa da cs cd sb so db dO)(hb:Bl w0 w1):q5R w w1 x sa da cs cd sb so db dO:=
 ⟨h.F1.later hb h.F1.lt,h.F2.later hb h.F2.lt,h.L.later hb,h.ltS,h.ltD,z2g h.below hb,Nat.le_trans h.size hb.size⟩
theorem q5R.z0M{f:Func}{p q:Tmp}(a:f.results=#[.cell p 48,.tmp q]){w w0:World}{x:Line}{sa da:Option Addr}{cs cd sb so db dO:Nat}(h:q5R w w0 x sa da cs cd sb so db dO)(b:Int)(r:Line×Int)(c:r=(x,b))(act:Act)
  (d:act.tmps.getD p undef=J2 (some ⟨w.heap.size+1,0,none⟩)) (i:act.tmps.getD q undef=J I b) (hd:act.defers=[]) :
  bodyPost prog f (fun e w'=>Ans sb db x w r e w') Exit.ret act (j1A w0 (w.heap.size+1) (J1 sa x.S.length cs) (J1 da x.D.length cd) (J I x.g) (J3 x.cl)):=
 z7u a h.F2 h.below (Nat.le_succ _) x sa da cs cd sb so db dO h.L (fun h0=>by have:=h.ltS h0;omega) (fun h0=>by have:=h.ltD h0;omega) (fun _=>.inl ⟨rfl,rfl⟩) (fun _=>.inl ⟨rfl,rfl⟩) _ _ rfl rfl b r c act d i hd
theorem j5F(x:Line)(sa da:Option Addr)(cs cd sb so db dO:Nat)(s:ByteArray)(due:Int)(w:World)(L:LAt w x sa da cs cd sb so db dO) :
  Calls prog 118 #[J4 #[J1 sa x.S.length cs,J1 da x.D.length cd,J I x.g,J3 x.cl],.string s,J I due] w fun e w'=>Ans sb db x w (z4C x s due,z5O x due) e w':=by
 have a3:=j0a x s due;generalize (z4C x s due,z5O x due)=r at *;have j:=J6 (begun L);have f:=J6 (fun w (L:LAt w x sa da cs cd sb so db dO)=>q3y x sa da cs cd sb so db dO w L);clear L
 go_enter func118,ntmps118
 go_upto_region 1 with fail
 generalize ((w.alloc (J5 #[J1 sa x.S.length cs,J1 da x.D.length cd,J I x.g,J3 x.cl] 48)).alloc (J5 #[J1 none 0 0,J1 none 0 0,J I 0,J3 false] 48))=w0 at *;obtain⟨⟨c0,c1,c2,c3⟩,-⟩:=j.out.F1.facts;obtain⟨⟨H,K,M,N⟩,⟨f0,f1,f2,f3⟩⟩:=j.out.F2.facts;have T:=fun h=>z7P (z8q (x:=x) h).1;have a4:=J6 T;clear T;generalize z4i x=R at *
 rcases a3 with⟨h1,hr⟩ | ⟨h1,h2,hr⟩ | ⟨h1,h2,h3,hr⟩ | ⟨h1,h2,h3,hr⟩
 ·have HR:=J6 hr;clear hr;go_wp2;exact j.out.z0M rfl _ _ HR.out _ rfl rfl rfl
 ·have HR:=J6 hr;have a5:(R != 0)=true:=by simpa using h2
  clear hr h2
  go_wp2_with (go_at_call 124;refine (f.out _ j.out.L).mono ?_;rintro e w1⟨rfl,hb⟩;have a:=J6 (j.out.over hb);clear hb c0 c1 c2 c3 H K M N f0 f1 f2 f3;obtain⟨⟨c0,c1,c2,c3⟩,-⟩:=a.out.F1.facts;obtain⟨⟨H,K,M,N⟩,⟨f0,f1,f2,f3⟩⟩:=a.out.F2.facts)
  exact a.out.z0M rfl _ _ HR.out _ rfl rfl rfl
 ·have HR:=J6 hr;subst h2;clear hr
  go_wp2_with (go_at_call 124;refine (f.out _ j.out.L).mono ?_;rintro e w1⟨rfl,hb⟩;have a:=J6 (j.out.over hb);clear hb c0 c1 c2 c3 H K M N f0 f1 f2 f3;obtain⟨⟨c0,c1,c2,c3⟩,-⟩:=a.out.F1.facts;obtain⟨⟨H,K,M,N⟩,⟨f0,f1,f2,f3⟩⟩:=a.out.F2.facts)
  exact a.out.z0M rfl _ _ HR.out _ rfl rfl rfl
 ·have HR:=J6 hr;subst h2;obtain⟨U,V,-,-⟩:=a4.out rfl;have W:=J6 U;clear hr U
  go_upto_region 8 with (go_at_call 124;refine (f.out _ j.out.L).mono ?_;rintro e w1⟨rfl,hb⟩;have a:=J6 (j.out.over hb);clear hb c0 c1 c2 c3 H K M N f0 f1 f2 f3;obtain⟨⟨c0,c1,c2,c3⟩,⟨B,C,E,F⟩⟩:=a.out.F1.facts)
  go_upto_region 9 with (go_at_call 158;refine (j0L x.S sa cs sb so s _ V a.out.L.hsa a.out.L.ncs a.out.L.PS).mono ?_;rintro e P⟨d,m,rfl,X,n,hS,hb⟩;have b:=J6 (a.out.over hb);have HS:=J6 (show _/\_/\_ from⟨hS,X,n⟩);have HZ:=J6 hb.size;clear hb hS X n c0 c1 c2 c3 B C E F;obtain⟨⟨c0,c1,c2,c3⟩,⟨B,C,E,F⟩⟩:=b.out.F1.facts)
  have F1:=b.out.F1.j1e (J1 (some ⟨d,0,none⟩) (x.S.length+1) m);have F2:=b.out.F2.other (c:=w.heap.size) (o:=0) (by omega) (J1 (some ⟨d,0,none⟩) (x.S.length+1) m)
  have Y:=b.out.below.setCell (p:=⟨w.heap.size,0,none⟩) (Nat.le_refl _) (J1 (some ⟨d,0,none⟩) (x.S.length+1) m);have PD:=b.out.L.PD.z4Q ((Below.refl w.heap.size P).setCell (p:=⟨w.heap.size,0,none⟩) (Nat.le_refl _) (J1 (some ⟨d,0,none⟩) (x.S.length+1) m)) b.out.ltD;have PS:z3L (P.setCell ⟨w.heap.size,0,none⟩ (J1 (some ⟨d,0,none⟩) (x.S.length+1) m)) d 0 (x.S ++ [s]):=fun i Z=>(q3c (by have:=a.out.size;have:=HS.out.2.1;omega) _).trans (HS.out.1 i Z)
  have hz:(P.setCell ⟨w.heap.size,0,none⟩ (J1 (some ⟨d,0,none⟩) (x.S.length+1) m)).heap.size=P.heap.size:=by simp
  have a0:w.heap.size+2<=d/\d<P.heap.size:=⟨by have:=a.out.size;have:=HS.out.2.1;omega,HS.out.2.2⟩
  clear c0 c1 c2 c3 B C E F;generalize (P.setCell ⟨w.heap.size,0,none⟩ (J1 (some ⟨d,0,none⟩) (x.S.length+1) m))=w3 at *;obtain⟨⟨c0,c1,c2,c3⟩,⟨B,C,E,F⟩⟩:=F1.facts;have q:=J6 (show _/\_/\_/\_/\_/\_/\_ from⟨F1,F2,Y,PD,PS,hz,a0⟩);clear F1 F2 Y PD PS hz a0
  go_upto_region 10 with (go_at_call 159;refine (j0b x.D da cd db dO due _ (by rw[W.out];exact V) b.out.L.hda b.out.L.ncd q.out.2.2.2.1).mono ?_;rintro e w4⟨k,Q,rfl,a1,t,hD,hb⟩;have HY:=J6 (show _/\_/\_/\_ from⟨hD,a1,t,hb⟩);have F1:=q.out.1.later hb q.out.1.lt;clear hb hD a1 t c0 c1 c2 c3 B C E F;obtain⟨⟨c0,c1,c2,c3⟩,⟨B,C,E,F⟩⟩:=F1.facts)
  have F2:=(q.out.2.1.later HY.out.2.2.2 q.out.2.1.lt).other (c:=w.heap.size) (o:=1) (by omega) (J1 (some ⟨k,0,none⟩) (x.D.length+1) Q)
  have a2:=F1.q9q (J1 (some ⟨k,0,none⟩) (x.D.length+1) Q);have Y:=(z2g q.out.2.2.1 HY.out.2.2.2).setCell (p:=⟨w.heap.size,1,none⟩) (Nat.le_refl _) (J1 (some ⟨k,0,none⟩) (x.D.length+1) Q);have z:=q.out.2.2.2.2.2;have z2:=HY.out.2.1
  have LN:LAt (w4.setCell ⟨w.heap.size,1,none⟩ (J1 (some ⟨k,0,none⟩) (x.D.length+1) Q)) ⟨x.S ++ [s],x.D ++ [due],x.g,x.cl⟩ (some ⟨d,0,none⟩) (some ⟨k,0,none⟩) m Q d 0 k 0:=by
   refine⟨?_,?_,fun _=>rfl,fun _=>rfl,fun h=>(by cases h),fun h=>(by cases h),fun i Z=>?_,fun i Z=>?_⟩
   ·show (x.S ++ [s]).length * 16<=_
    simp;omega
   ·show (x.D ++ [due]).length * 8<=_
    simp[W.out];omega
   ·exact (q3c (by omega) _).trans ((HY.out.2.2.2.cell (p:=⟨d,0+i,none⟩) (by show d<_;omega)).trans (q.out.2.2.2.2.1 i Z))
   ·exact (q3c (by omega) _).trans (HY.out.1 i Z)
  clear c0 c1 c2 c3 B C E F;generalize (w4.setCell ⟨w.heap.size,1,none⟩ (J1 (some ⟨k,0,none⟩) (x.D.length+1) Q))=w5 at *;obtain⟨⟨c0,c1,c2,c3⟩,-⟩:=a2.facts;obtain⟨⟨H,K,M,N⟩,⟨f0,f1,f2,f3⟩⟩:=F2.facts;have G:=J6 (show _/\_/\_ from⟨F2,Y,LN⟩);have u:d≠w.heap.size+1:=by omega
  have v:k≠w.heap.size+1:=by omega
  have y:w.heap.size<=d:=by omega
  have A:w.heap.size<=k:=by omega
  have l:=J6 (show (_/\_)/\_/\_ from⟨⟨u,y⟩,v,A⟩);clear F1 a2 F2 Y LN u v y A z z2;go_wp2;exact z7u rfl G.out.1 G.out.2.1 (Nat.le_succ _) ⟨x.S ++ [s],x.D ++ [due],x.g,x.cl⟩ _ _ _ _ _ _ _ _ G.out.2.2 (fun _=>l.out.1.1) (fun _=>l.out.2.1) (fun _=>.inr l.out.1.2) (fun _=>.inr l.out.2.2) _ _ (by simp) (by simp) _ _ HR.out _ rfl rfl rfl
end Ln
namespace Cd
open Go.RowKit
theorem info5:(prog.info? 5).map (fun i=>(i.zero,i.size,i.bytes))=some (some (.int .u8 0),1,1):=by kernel_rfl
def be(n:Int):Nat->List Int
 | 0=>[]
 | m+1=>(n / 2 ^ (8 * m)) % 256 :: be n m
theorem z0J(n:Int)(m:Nat):(be n m).length=m:=by
 induction m with
 | zero=>rfl
 | succ m ih=>simp[be,ih]
def Row(w:World)(B:Nat)(v:Value)(a:List Int):Prop:=w.ownsRow B 5 1 v a.length (a.map (Value.int .u8))
def At(w:World)(v v':Value):Prop:=v'.ownBlock=v.ownBlock∨∃ k,v'.ownBlock=some k/\w.heap.size<=k
theorem q2Z{w w1 b:World}{v v1:Value}(h:w.grownBy w1 v.ownBlock)(d:At w v v1)(k:w1.grownBy b v1.ownBlock):w.grownBy b v.ownBlock:=by
 refine⟨k.os.trans h.os,k.tape.trans h.tape,k.output.trans h.output,Nat.le_trans h.size k.size,fun i c a=>?_⟩;rw[k.block i (Nat.lt_of_lt_of_le c h.size) ?_,h.block i c a]
 rcases d with e | ⟨j,e,f⟩
 ·rw[e];exact a
 ·rw[e];intro h;cases h;omega
theorem q5l(w:World)(r:Option Nat):w.grownBy w r:=⟨rfl,rfl,rfl,Nat.le_refl _,fun _ _ _=>rfl⟩
theorem At.trans{w w1:World}{v v1 v2:Value}(hs:w.heap.size<=w1.heap.size)(h:At w v v1)(k:At w1 v1 v2):At w v v2:=by
 rcases k with e | ⟨j,e,a⟩
 ·rcases h with b | ⟨j,b,a⟩
  ·exact .inl (e.trans b)
  ·exact .inr ⟨j,e.trans b,a⟩
 ·exact .inr ⟨j,e,Nat.le_trans hs a⟩
theorem q2E{w b:World}{o:Obj}{r:Option Nat}(k:(w.alloc o).grownBy b r):w.grownBy b r:=
 ⟨k.os,k.tape,k.output,Nat.le_trans (by simp) k.size,fun i c a=>(k.block i (by simp;omega) a).trans (Below.heap_alloc _ _ _ c)⟩
theorem z8r(B:Nat)(v:Value)(j:List Int)(n:Int)(d:Nat)(w:World)(hown:Row w B v j)(x:d<=7)(s:j.length+d<=1000000)(y:B<=w.heap.size) :
  Calls prog 157 #[v,J I n,J I d] w fun e w'=>∃ v',e=.returned v'/\Row w' B v' (j ++ be n d)/\w.grownBy w' v.ownBlock/\At w v v':=by
 obtain⟨i0,z,o,p,q⟩:=info_parts info5
 go_enter func157,ntmps157
 go_wp2
 go_loopw [0,7] (fun u i wl=>∃ (m:Nat) (k:List Int),m<=d/\i=J I ((m:Int) - 1)/\Hid (k ++ be n m=j ++ be n d)/\Row wl B u k/\Hid (w.grownBy wl v.ownBlock/\At w v u)) (fun _ i _=>(intOf i+1).toNat)
 case atStart=>exact⟨d,j,Nat.le_refl _,rfl,rfl,hown,q5l _ _,.inl rfl⟩
 case round =>
  obtain⟨m,k,D,rfl,g,a,f⟩:=hrel;clear hown
  match m,g with
  | 0,g =>
   go_wp2;go_ret;have t:=g.out;simp only[be,List.append_nil]at t;subst t;exact⟨_,rfl,a,f.out.1,f.out.2⟩
  | m+1,g =>
   have E:k.length<=1000000:=by
    have h1:=congrArg List.length g.out;simp only[List.length_append,z0J]at h1;omega
   have A:B<=wr.heap.size:=Nat.le_trans y f.out.1.size
   go_wp2_with (at_builtin;refine wpList_append_own_at _ rfl _ _ 233 rfl B 5 i0 (.int .u8 0) 1 1 underlying233 z o p q rfl (by decide) _ _ _ rfl (World.ownsRow.alloc a _) ⟨wr.heap.size,0,none⟩ 1 1 [.int .u8 (n / 2 ^ (8 * m) % 256)] rfl rfl (cell_one_new _ _ _) (by intro u hu;simp at hu;subst hu;rfl) (by unfold maxLen;omega) (by omega) (by simp;omega) ?_;intro v' w1 b c _ l)
   have C:Hid (Row w1 B v' (k ++ [n / 2 ^ (8 * m) % 256])):=by simpa [Hid,Row] using b
   have r:Hid (w.grownBy w1 v.ownBlock/\At w v v'):=by
    refine⟨q2Z f.out.1 f.out.2 (q2E c),f.out.2.trans f.out.1.size ?_⟩
    rcases l with h | h
    ·exact .inl h
    ·exact .inr ⟨_,h,by simp⟩
   clear b c a l;go_wp2;go_roundw
   case rel=>exact⟨m,_,by omega,by go_num,by show _=_;rw[<- g.out];simp[be],C.out,r⟩
   case measure=>simp[intOf]
theorem z5T(l:List Int):∀ last:Int,-1<=last->z0i last l=true->(l.length:Int)<=5 - last∨l=[]:=by
 induction l with
 | nil=>intro _ _ _;exact .inr rfl
 | cons x t ih =>
  intro last b h;simp only[z0i,Bool.and_eq_true,decide_eq_true_eq,isV]at h;obtain⟨⟨h1,h2⟩,h3⟩:=h
  rcases ih x (by omega) h3 with a | a
  ·left;simp only[List.length_cons];omega
  ·subst a;left;simp;omega
theorem z5e(l:List (Int×Int)):∀ last:Int,-1<=last->z0d last l=true->(l.length:Int)<=5 - last∨l=[]:=by
 induction l with
 | nil=>intro _ _ _;exact .inr rfl
 | cons x t ih =>
  intro last b h;simp only[z0d,Bool.and_eq_true,decide_eq_true_eq,isV]at h;obtain⟨⟨⟨⟨h1,h2⟩,_⟩,_⟩,h3⟩:=h
  rcases ih x.1 (by omega) h3 with a | a
  ·left;simp only[List.length_cons];omega
  ·subst a;left;simp;omega
theorem z9H{k i v n:Int}{S:List (Int×Int)}{D:List Int}(h:z0n k i v n S D=0):z0d (-1) S=true/\z0i (-1) D=true/\S.length<=6/\D.length<=6:=by
 have h0:z0d (-1) S=true/\z0i (-1) D=true:=by
  rcases z5v k i v n S D with h | h | ⟨_,_,h | h | ⟨_,_,h | h | h | ⟨_,h | h | h | h⟩⟩⟩ <;> simp_all
 refine⟨h0.1,h0.2,?_,?_⟩
 ·rcases z5e S (-1) (by omega) h0.1 with h | h
  ·omega
  ·subst h;simp
 ·rcases z5T D (-1) (by omega) h0.2 with h | h
  ·omega
  ·subst h;simp
def j8L(w:World)(b:Nat)(k i v n:Int)(s d:Value):Prop:=
 w.cell? ⟨b,0,none⟩=some (J I k)/\w.cell? ⟨b,1,none⟩=some (J I i)/\w.cell? ⟨b,2,none⟩=some (J I v) /\
 w.cell? ⟨b,3,none⟩=some (J I n)/\w.cell? ⟨b,4,none⟩=some s/\w.cell? ⟨b,5,none⟩=some d
theorem q4g(w:World)(k i v n:Int)(s d:Value):j8L (w.alloc (J5 #[J I k,J I i,J I v,J I n,s,d] 68)) w.heap.size k i v n s d:=by
 unfold j8L
 simp[World.cell?_alloc_at]
theorem j8L.later{w w':World}{B b:Nat}{k i v n:Int}{s d:Value}(h:j8L w b k i v n s d)(hb:Below B w w')(a:b<B):j8L w' b k i v n s d:=by
 obtain⟨h0,h1,h2,h3,c,e⟩:=h;exact⟨(hb.cell (p:=⟨b,0,none⟩) a).trans h0,(hb.cell (p:=⟨b,1,none⟩) a).trans h1,(hb.cell (p:=⟨b,2,none⟩) a).trans h2,(hb.cell (p:=⟨b,3,none⟩) a).trans h3,(hb.cell (p:=⟨b,4,none⟩) a).trans c,(hb.cell (p:=⟨b,5,none⟩) a).trans e⟩
theorem Row.below{W w w':World}{B:Nat}{v:Value}{a:List Int}(h:Row w B v a)(hb:Below B W w)(b:B<=W.heap.size)(c:w.grownBy w' v.ownBlock):Below B W w':=
 hb.grown c (Nat.le_trans b hb.size) (fun k d=>(World.ownsRow.lt h k d).1)
theorem q5G(k i v n:Int)(S:List (Int×Int))(D:List Int)(sa da:Option Addr)(cs cd sb so db dO:Nat)(w:World)
  (hls:S.length<=maxLen) (hld:D.length<=maxLen) (hsa:0<S.length->sa=some ⟨sb,so,none⟩) (hda:0<D.length->da=some ⟨db,dO,none⟩) (PS:z5D w sb so S) (PD:z1i w db dO D)
  (b:z0n k i v n S D≠0) :
  Calls prog 117 #[J4 #[J I k,J I i,J I v,J I n,J1 sa S.length cs,J1 da D.length cd]] w fun e w'=>e=.returned (.tuple #[.string ⟨#[]⟩,J I (z0n k i v n S D)])/\Bl w w':=by
 have a:=z0p k i v n S D sa da cs cd sb so db dO _ hls hld hsa hda (PS.later (z0A w (J5 #[J I k,J I i,J I v,J I n,J1 sa S.length cs,J1 da D.length cd] 68))) (PD.later (z0A _ _));generalize z0n k i v n S D=G at *;have d:(G != 0)=true:=by simpa using b
 have c:=a;clear a PS PD hls hld hsa hda b
 go_enter func117,ntmps117
 go_wp2_with (go_at_call 29;refine c.mono ?_;rintro e w1⟨rfl,hb⟩)
 go_ret2;exact⟨rfl,z3b hb⟩
def z5p(p:Int×Int):List Int:=be p.1 1 ++ be p.2 7
def q4j(k i v n:Int)(a:Nat):List Int:=be k 1 ++ be i 6 ++ be v 1 ++ be n 7 ++ be a 1
def enc(k i v n:Int)(S:List (Int×Int))(D:List Int):List Int:=
 q4j k i v n S.length ++ S.flatMap z5p ++ be D.length 1 ++ D.flatMap (be · 1)
theorem q3u(p:Int×Int):(z5p p).length=8:=by simp[z5p,z0J]
theorem z4H(S:List (Int×Int)):(S.flatMap z5p).length=8 * S.length:=by
 induction S with
 | nil=>rfl
 | cons a t ih=>rw[List.flatMap_cons,List.length_append,ih,q3u,List.length_cons];omega
theorem z7g(D:List Int):(D.flatMap (be · 1)).length=D.length:=by
 induction D with
 | nil=>rfl
 | cons a t ih=>rw[List.flatMap_cons,List.length_append,ih,z0J,List.length_cons];omega
theorem z3B(k i v n:Int)(a:Nat):(q4j k i v n a).length=16:=by simp[q4j,z0J]
theorem q6e(k i v n:Int)(S:List (Int×Int))(D:List Int):(enc k i v n S D).length=17+8 * S.length+D.length:=by
 simp only[enc,List.length_append,z3B,z4H,z7g,z0J];omega
theorem q1r{α:Type}(f:α->List Int)(l:List α)(d:α)(m:Nat)(h:m<l.length):(l.take (m+1)).flatMap f=(l.take m).flatMap f ++ f (l.getD m d):=by
 rw[List.take_succ_eq_append_getElem h,List.flatMap_append,List.flatMap_singleton]
 simp[List.getD,h]
theorem take_len{α:Type}(l:List α)(m:Nat):(l.take m).length<=l.length:=by simp;omega
theorem Row.keeps{w w':World}{B:Nat}{v:Value}{a:List Int}{o:Obj}(h:Row w B v a)(b:(w.alloc o).grownBy w' v.ownBlock):w'.heap[w.heap.size]?=(w.alloc o).heap[w.heap.size]?:=
 b.block _ (by simp) (fun e=>by have:=(World.ownsRow.lt h _ e.symm).2;omega)
theorem cell_of_heap{w w':World}{b:Nat}(h:w'.heap[b]?=w.heap[b]?)(o:Nat):w'.cell? ⟨b,o,none⟩=w.cell? ⟨b,o,none⟩:=World.cell?_of_block (w:=w) (a:=⟨b,o,none⟩) h
theorem Row.conv{w:World}{B:Nat}{v:Value}{E:List Int}(h:Row w B v E):(convert 233 9 v).run prog w=.ok (.string (strOfNums E)) w:=by
 rcases h.2 with⟨rfl,h0⟩ | ⟨g,cap,cur,rfl,hb,hh,hn,hm,hs,ht⟩
 ·have:E=[]:=List.eq_nil_of_length_eq_zero h0;subst this;exact run_convert_bytes_nil (P:=prog) w 233 5 underlying233 underlying5 0 0 9 underlying9
 ·refine run_convert_bytes_arg (P:=prog) w 233 5 underlying233 underlying5 g 0 E.length cap E rfl (fun j a=>?_) 9 underlying9;have h':w.ownsRow B 5 1 (J1 (some ⟨g,0,none⟩) E.length cap) E.length (E.map (Value.int .u8)):=h;rw[Nat.zero_add,h'.cellAt j (by omega)]
  simp[List.getD,a]
theorem z5D.z4Q{w w':World}{B b off:Nat}{l:List (Int×Int)}(h:z5D w b off l)(hb:Below B w w')(a:0<l.length->b<B):z5D w' b off l:=fun i c =>
 ⟨(hb.cell (p:=⟨b,off+i * 2,none⟩) (a (by omega))).trans (h i c).1,(hb.cell (p:=⟨b,off+i * 2+1,none⟩) (a (by omega))).trans (h i c).2⟩
theorem z1i.z4Q{w w':World}{B b off:Nat}{l:List Int}(h:z1i w b off l)(hb:Below B w w')(a:0<l.length->b<B):z1i w' b off l:=fun i c =>
 (hb.cell (p:=⟨b,off+i,none⟩) (a (by omega))).trans (h i c)
theorem z5D.lt{w:World}{b off:Nat}{l:List (Int×Int)}(h:z5D w b off l)(a:0<l.length):b<w.heap.size:=World.block_lt_of_cell? w _ (h 0 a).1
theorem z1i.lt{w:World}{b off:Nat}{l:List Int}(h:z1i w b off l)(a:0<l.length):b<w.heap.size:=World.block_lt_of_cell? w _ (h 0 a)
theorem z4c(B:Nat)(v:Value)(c:List Int)(n g:Int)(a:Nat)(w:World)(d:g=(a:Int))(hown:Row w B v c)(f:a<=7)(b:c.length+a<=1000000)(h:B<=w.heap.size) :
  Calls prog 157 #[v,J I n,J I g] w fun e w'=>∃ v',e=.returned v'/\Row w' B v' (c ++ be n a)/\w.grownBy w' v.ownBlock/\At w v v':=by
 subst d;exact z8r B v c n a w hown f b h
theorem q8J(k i v n:Int)(S:List (Int×Int))(D:List Int)(sa da:Option Addr)(cs cd sb so db dO:Nat)(w:World)
  (hls:S.length<=maxLen) (hld:D.length<=maxLen) (hsa:0<S.length->sa=some ⟨sb,so,none⟩) (hda:0<D.length->da=some ⟨db,dO,none⟩) (PS:z5D w sb so S) (PD:z1i w db dO D)
  (hg:z0n k i v n S D=0) :
  Calls prog 117 #[J4 #[J I k,J I i,J I v,J I n,J1 sa S.length cs,J1 da D.length cd]] w fun e w'=>e=.returned (.tuple #[.string (strOfNums (enc k i v n S D)),J I 0])/\Bl w w':=by
 obtain⟨_,_,e5,e6⟩:=z9H hg;have V:=fun h=>PS.lt h;have W:=fun h=>PD.lt h;have c:=z0p k i v n S D sa da cs cd sb so db dO _ hls hld hsa hda (PS.later (z0A w (J5 #[J I k,J I i,J I v,J I n,J1 sa S.length cs,J1 da D.length cd] 68))) (PD.later (z0A _ _));rw[hg]at c;have d4:Hid (0<S.length->sb<w.heap.size+1):=fun h=>Nat.lt_succ_of_lt (V h);have d5:Hid (0<D.length->db<w.heap.size+1):=fun h=>Nat.lt_succ_of_lt (W h);have d6:Hid (0<S.length->sa=some ⟨sb,so,none⟩):=hsa;have d7:Hid (0<D.length->da=some ⟨db,dO,none⟩):=hda;clear hls hld hsa hda hg V W
 go_enter func117,ntmps117
 go_wp2_with fail
 refine c.mono ?_;rintro e w1⟨rfl,r⟩;clear c;have b:j8L w1 w.heap.size k i v n (J1 sa S.length cs) (J1 da D.length cd):=(q4g _ _ _ _ _ _ _).later r (by simp)
 have E:Hid (Bl w w1):=z3b r;have d8:=PS.later E.out;have d9:=PD.later E.out;have a:w.heap.size+1<=w1.heap.size:=(by have:=r.size;simpa using this)
 have F:Row w1 (w.heap.size+1) (J1 none 0 0) []:=World.ownsRow_nil _ _ _ _;clear r PS PD;obtain⟨c0,c1,c2,c3,d,f⟩:=id b
 go_wp2_with fail
 refine (z4c (w.heap.size+1) _ [] _ 1 1 _ rfl F (by omega) (by simp) a).mono ?_
 rintro e w2⟨v2,rfl,s,X,_⟩;have t:Hid (Below (w.heap.size+1) w1 w2):=F.below (Below.refl _ _) a X;clear c0 c1 c2 c3 d f X F;have Y:=b.later t.out (Nat.lt_succ_self _);obtain⟨c0,c1,c2,c3,d,f⟩:=id Y;have Z:w.heap.size+1<=w2.heap.size:=Nat.le_trans a t.out.size;rw[List.nil_append]at s
 go_wp2_with fail
 refine (z4c (w.heap.size+1) _ _ _ 6 6 _ rfl s (by omega) (by simp[z0J]) Z).mono ?_
 rintro e w3⟨v3,rfl,G,a0,_⟩;have x:Hid (Below (w.heap.size+1) w1 w3):=s.below t.out a a0;clear c0 c1 c2 c3 d f a0 s t Y;have a1:=b.later x.out (Nat.lt_succ_self _);obtain⟨c0,c1,c2,c3,d,f⟩:=id a1;have a2:w.heap.size+1<=w3.heap.size:=Nat.le_trans a x.out.size
 go_wp2_with fail
 refine (z4c (w.heap.size+1) _ _ _ 1 1 _ rfl G (by omega) (by simp[z0J]) a2).mono ?_
 rintro e w4⟨v4,rfl,H,a3,_⟩;have A:Hid (Below (w.heap.size+1) w1 w4):=G.below x.out a a3;clear c0 c1 c2 c3 d f a3 G x a1;have a4:=b.later A.out (Nat.lt_succ_self _);obtain⟨c0,c1,c2,c3,d,f⟩:=id a4;have a5:w.heap.size+1<=w4.heap.size:=Nat.le_trans a A.out.size
 go_wp2_with fail
 refine (z4c (w.heap.size+1) _ _ _ 7 7 _ rfl H (by omega) (by simp[z0J]) a5).mono ?_
 rintro e w5⟨v5,rfl,K,a6,_⟩;have B:Hid (Below (w.heap.size+1) w1 w5):=H.below A.out a a6;clear c0 c1 c2 c3 d f a6 H A a4;have a7:=b.later B.out (Nat.lt_succ_self _);obtain⟨c0,c1,c2,c3,d,f⟩:=id a7;have a8:w.heap.size+1<=w5.heap.size:=Nat.le_trans a B.out.size
 go_wp2_with fail
 refine (z4c (w.heap.size+1) _ _ _ 1 1 _ rfl K (by omega) (by simp[z0J]) a8).mono ?_
 rintro e w6⟨v6,rfl,a9,b4,_⟩;have L:Hid (Below (w.heap.size+1) w1 w6):=K.below B.out a b4;clear c0 c1 c2 c3 d f b4 K B a7;have b5:=b.later L.out (Nat.lt_succ_self _);obtain⟨c0,c1,c2,c3,d,f⟩:=id b5;clear Z a2 a5 a8;have b6:Hid (Row w6 (w.heap.size+1) v6 (q4j k i v n S.length)):=a9;clear a9
 go_wp2_with fail
 clear c0 c1 c2 c3 d f b5
 go_loopw [5,39] (fun u j wl=>∃ m:Nat,m<=S.length/\j=J I m/\Hid (Row wl (w.heap.size+1) u (q4j k i v n S.length ++ (S.take m).flatMap z5p))/\Hid (Below (w.heap.size+1) w1 wl)) (fun _ j _=>S.length - (intOf j).toNat)
 case atStart=>exact⟨0,Nat.zero_le _,rfl,by simpa using b6,L⟩
 case round =>
  obtain⟨m,hm,rfl,HR,o⟩:=hrel;clear b6 L;have C:w.heap.size+1<=wr.heap.size:=Nat.le_trans a o.out.size;have b7:((S.take m).flatMap z5p).length<=48:=by rw[z4H];have:=take_len S m;omega
  by_cases l:m<S.length
  ·have hcell:=d8.z4Q o.out d4.out m l;have g:=q1r z5p S (0,0) m l;obtain⟨y,hy⟩:∃ y,S.getD m (0,0)=y:=⟨_,rfl⟩;rw[hy]at hcell g;obtain⟨y,z⟩:=y;obtain⟨b8,b9⟩:=hcell;dsimp only at b8 b9;have e:=d6.out (by omega)
   subst e;have HT:Hid _:=g;clear g hy
   go_wp2_with fail
   have M:Row (wr.alloc (Obj.cells #[Value.int IntKind.i64 y,Value.int IntKind.i64 z] 65)) (w.heap.size+1) u5 (q4j k i v n S.length ++ (S.take m).flatMap z5p):=World.ownsRow.alloc HR.out _;have c6:Hid (Below (w.heap.size+1) w1 (wr.alloc (Obj.cells #[Value.int IntKind.i64 y,Value.int IntKind.i64 z] 65))):=o.out.alloc C _;refine (z4c (w.heap.size+1) _ _ _ 1 1 _ rfl M (by omega) (by simp only[List.length_append,z3B];omega) (by simp;omega)).mono ?_
   rintro e wa⟨va,rfl,N,P,_⟩;have hk:=HR.out.keeps P;have e0:wa.cell? ⟨wr.heap.size,1,none⟩=some (J I z):=by rw[cell_of_heap hk];simp[World.cell?_alloc_at]
   have c7:Hid (Below (w.heap.size+1) w1 wa):=M.below c6.out a P;have e1:w.heap.size+1<=wa.heap.size:=Nat.le_trans a c7.out.size;clear hk P M c6 b8 b9
   go_wp2_with fail
   refine (z4c (w.heap.size+1) _ _ _ 7 7 _ rfl N (by omega) (by simp only[List.length_append,z3B,z0J];omega) e1).mono ?_
   rintro e wb⟨vb,rfl,p,q,_⟩;have Q:Hid (Below (w.heap.size+1) w1 wb):=N.below c7.out a q
   have R:Hid (Row wb (w.heap.size+1) vb (q4j k i v n S.length ++ (S.take (m+1)).flatMap z5p)):=by
    show Row _ _ _ _
    rw[HT.out,z5p,<- List.append_assoc,<- List.append_assoc];exact p
   clear N p q e0;go_wp2;go_roundw
   case rel=>exact⟨m+1,by omega,by go_num,R,Q⟩
   case measure=>simp[intOf];omega
  ·have e2:m=S.length:=by omega
   subst e2;have T:Row wr (w.heap.size+1) u5 (q4j k i v n S.length ++ S.flatMap z5p):=by have:=HR.out;rwa [List.take_length]at this
   have c8:=b.later o.out (Nat.lt_succ_self _);obtain⟨c0,c1,c2,c3,d,f⟩:=id c8;have e7:(S.flatMap z5p).length<=48:=by rw[z4H];omega
   clear b7 HR c8
   go_wp2_with fail
   refine (z4c (w.heap.size+1) _ _ _ 1 1 _ rfl T (by omega) (by simp only[List.length_append,z3B];omega) C).mono ?_
   rintro e w8⟨v8,rfl,c9,d0,_⟩;have U:Hid (Below (w.heap.size+1) w1 w8):=T.below o.out a d0;clear c0 c1 c2 c3 d f d0 T l hm o;have d1:=b.later U.out (Nat.lt_succ_self _);obtain⟨c0,c1,c2,c3,d,f⟩:=id d1;have d2:Hid (Row w8 (w.heap.size+1) v8 (q4j k i v n S.length ++ S.flatMap z5p ++ be D.length 1)):=c9;clear c9
   go_wp2_with fail
   clear c0 c1 c2 c3 d f d1
   go_loopw [5,60] (fun u j wl=>∃ m:Nat,m<=D.length/\j=J I m/\Hid (Row wl (w.heap.size+1) u (q4j k i v n S.length ++ S.flatMap z5p ++ be D.length 1 ++ (D.take m).flatMap (be · 1)))/\Hid (Below (w.heap.size+1) w1 wl)) (fun _ j _=>D.length - (intOf j).toNat)
   case atStart=>exact⟨0,Nat.zero_le _,rfl,by simpa using d2,U⟩
   case round =>
    obtain⟨m,hm,rfl,HR,o⟩:=hrel;clear d2 U;have C:w.heap.size+1<=wr.heap.size:=Nat.le_trans a o.out.size;have e4:((D.take m).flatMap (be · 1)).length<=6:=by rw[z7g];have:=take_len D m;omega
    by_cases l:m<D.length
    ·have hcell:=d9.z4Q o.out d5.out m l;have g:=q1r (be · 1) D 0 m l;obtain⟨y,hy⟩:∃ y,D.getD m 0=y:=⟨_,rfl⟩;rw[hy]at hcell g;have e:=d7.out (by omega)
     subst e;have HT:Hid _:=g;clear g hy
     go_wp2_with fail
     refine (z4c (w.heap.size+1) _ _ _ 1 1 _ rfl HR.out (by omega) (by simp only[List.length_append,z3B,z0J];omega) C).mono ?_
     rintro e wb⟨vb,rfl,p,q,_⟩;have Q:Hid (Below (w.heap.size+1) w1 wb):=HR.out.below o.out a q
     have R:Hid (Row wb (w.heap.size+1) vb (q4j k i v n S.length ++ S.flatMap z5p ++ be D.length 1 ++ (D.take (m+1)).flatMap (be · 1))):=by
      show Row _ _ _ _
      rw[HT.out,<- List.append_assoc];exact p
     clear p q hcell;go_wp2;go_roundw
     case rel=>exact⟨m+1,by omega,by go_num,R,Q⟩
     case measure=>simp[intOf];omega
    ·have e3:m=D.length:=by omega
     subst e3;have d3:Row wr (w.heap.size+1) u5 (enc k i v n S D):=by have:=HR.out;rwa [List.take_length]at this
     have HF:Hid (Bl w wr):=E.out.trans (o.out.mono (Nat.le_succ _));have e8:=d3.conv
     clear d3 HR o;go_wp2;go_ret2;exact⟨rfl,HF.out⟩
end Cd
namespace Cd
open Go.ChangeShapes Go.WideShapes Go.ChangeAt Go.RowKit Go.Deep
structure q7h(w:World)(S:List (Int×Int))(D:List Int)(sa da:Option Addr)(sb so db dO:Nat):Prop where
 hls:S.length<=maxLen
 hld:D.length<=maxLen
 hsa:0<S.length->sa=some ⟨sb,so,none⟩
 hda:0<D.length->da=some ⟨db,dO,none⟩
 PS:z5D w sb so S
 PD:z1i w db dO D
theorem q7h.later{w w':World}{S:List (Int×Int)}{D:List Int}{sa da:Option Addr}{sb so db dO:Nat}(h:q7h w S D sa da sb so db dO)(hb:Bl w w'):q7h w' S D sa da sb so db dO:=
 ⟨h.hls,h.hld,h.hsa,h.hda,h.PS.later hb,h.PD.later hb⟩
section
variable {H:Type} {enc:TypeId×Value->H} {W:World}
end
end Cd
namespace Cd
open Go.RowKit
theorem j9G:(prog.info? 65).map (fun i=>(i.zero,i.size,i.bytes))=some (some (J4 #[J I 0,J I 0]),2,16):=by kernel_rfl
theorem info3:(prog.info? 3).map (fun i=>(i.zero,i.size,i.bytes))=some (some (J I 0),1,8):=by kernel_rfl
theorem so{w:World}{b i j:Nat}{v u:Value}(a:i≠j)(h:w.cell? ⟨b,j,none⟩=some u):(w.setCell ⟨b,i,none⟩ v).cell? ⟨b,j,none⟩=some u:=
 (World.cell?_setCell_other _ _ _ _ (fun e=>a (by cases e;rfl))).trans h
theorem ss{w:World}{b i:Nat}{v u:Value}(h:w.cell? ⟨b,i,none⟩=some u):(w.setCell ⟨b,i,none⟩ v).cell? ⟨b,i,none⟩=some v:=World.cell?_setCell_same _ _ _ h
def z3V(w:World)(b:Nat)(v0 v1 v2 v3 a c:Value):World:=
 (((((w.setCell ⟨b,0,none⟩ v0).setCell ⟨b,1,none⟩ v1).setCell ⟨b,2,none⟩ v2).setCell ⟨b,3,none⟩ v3).setCell ⟨b,4,none⟩ a).setCell ⟨b,5,none⟩ c
theorem z5k{w:World}{b:Nat}(v0 v1 v2 v3 a c:Value)(h:∀ o,o<6->∃ u,w.cell? ⟨b,o,none⟩=some u) :
  (z3V w b v0 v1 v2 v3 a c).cell? ⟨b,0,none⟩=some v0/\(z3V w b v0 v1 v2 v3 a c).cell? ⟨b,1,none⟩=some v1/\(z3V w b v0 v1 v2 v3 a c).cell? ⟨b,2,none⟩=some v2 /\
  (z3V w b v0 v1 v2 v3 a c).cell? ⟨b,3,none⟩=some v3/\(z3V w b v0 v1 v2 v3 a c).cell? ⟨b,4,none⟩=some a/\(z3V w b v0 v1 v2 v3 a c).cell? ⟨b,5,none⟩=some c:=by
 obtain⟨f,h0⟩:=h 0 (by omega)
 obtain⟨u1,h1⟩:=h 1 (by omega)
 obtain⟨u2,h2⟩:=h 2 (by omega)
 obtain⟨g,h3⟩:=h 3 (by omega)
 obtain⟨i,d⟩:=h 4 (by omega)
 obtain⟨j,e⟩:=h 5 (by omega)
 exact⟨so (by decide) (so (by decide) (so (by decide) (so (by decide) (so (by decide) (ss (h0)))))),so (by decide) (so (by decide) (so (by decide) (so (by decide) (ss (so (by decide) (h1)))))),so (by decide) (so (by decide) (so (by decide) (ss (so (by decide) (so (by decide) (h2)))))),so (by decide) (so (by decide) (ss (so (by decide) (so (by decide) (so (by decide) (h3)))))),so (by decide) (ss (so (by decide) (so (by decide) (so (by decide) (so (by decide) (d)))))),ss (so (by decide) (so (by decide) (so (by decide) (so (by decide) (so (by decide) (e))))))⟩
theorem z3X{B:Nat}{w0 w:World}{b:Nat}(v0 v1 v2 v3 c d:Value)(h:Below B w0 w)(a:B<=b):Below B w0 (z3V w b v0 v1 v2 v3 c d):=
 (((((h.setCell a _).setCell a _).setCell a _).setCell a _).setCell a _).setCell a _
theorem z6y{w:World}{b:Nat}(v0 v1 v2 v3 a d:Value){c:Nat}(hc:c≠b):(z3V w b v0 v1 v2 v3 a d).heap[c]?=w.heap[c]?:=by
 unfold z3V;rw[Below.heap_setCell _ _ _ _ hc,Below.heap_setCell _ _ _ _ hc,Below.heap_setCell _ _ _ _ hc,Below.heap_setCell _ _ _ _ hc,Below.heap_setCell _ _ _ _ hc,Below.heap_setCell _ _ _ _ hc]
end Cd
section
def z1I(f0 f1 f2 f3 bo wa bu:Int):Bool:=decide ((0<=f0/\f0<=400000)/\(0<=f1/\f1<=400000)/\(0<=f2/\f2<=400000)/\(0<=f3/\f3<=400000)/\(0<=bo/\bo<=400000)/\(0<=wa/\wa<=400000)/\(0<=bu/\bu<=400000)/\f0+f1+f2+f3+bo+wa+bu=400000)
structure Bk where
 f0:Int
 f1:Int
 f2:Int
 f3:Int
 bo:Int
 wa:Int
 bu:Int
def Bk.good(b:Bk):Bool:=z1I b.f0 b.f1 b.f2 b.f3 b.bo b.wa b.bu
def Bk.get(b:Bk):Nat->Int
 | 0=>b.f0
 | 1=>b.f1
 | 2=>b.f2
 | 3=>b.f3
 | 4=>b.bo
 | 5=>b.wa
 | _=>b.bu
def Bk.put(b:Bk)(k:Nat)(x:Int):Bk:=
 match k with
 | 0=>{ b with f0:=x }
 | 1=>{ b with f1:=x }
 | 2=>{ b with f2:=x }
 | 3=>{ b with f3:=x }
 | 4=>{ b with bo:=x }
 | 5=>{ b with wa:=x }
 | _=>{ b with bu:=x }
def mv(b:Bk)(f t:Nat)(n:Int):Bk×Int:=
 if b.good=false∨¬ (0<=n/\n<=1125899906842624) then (b,2) else if b.get f<n then (b,7) else ((b.put f (b.get f - n)).put t (b.get t+n),0)
def z2T(b:Bk)(d n:Int):Bk×Int:=if 0<=d/\d<4 then mv b d.toNat 4 n else (b,4)
def z1e(b:Bk)(n:Int):Bk×Int:=mv b 4 5 n
def z8J(b:Bk)(d n:Int):Bk×Int:=if 0<=d/\d<4 then mv b 5 d.toNat n else (b,4)
def z3d(b:Bk)(x y:Int):Bk×Int:=
 if (mv b 4 6 x).2=0 then if (mv (mv b 4 6 x).1 5 6 y).2=0 then ((mv (mv b 4 6 x).1 5 6 y).1,0) else (b,(mv (mv b 4 6 x).1 5 6 y).2) else (b,(mv b 4 6 x).2)
end
section
structure Vd where
 tok:Int
 sh:Int
 lost:Int
 jail:Bool
 dead:Bool
structure Wt where
 num:Int
 d:Int
 v:Int
 amt:Int
 hei:Int
 due:Int
 h0:Int
 h1:Int
structure St where
 b:Bk
 V:Nat->Vd
 S:Nat->Nat->Int
 W:List Wt
 next:Int
def inA(n:Int):Bool:=decide (0<=n/\n<=1125899906842624)
def isV(v:Int):Bool:=decide (0<=v/\v<6)
def isD(d:Int):Bool:=decide (0<=d/\d<4)
def vOk(x:Vd):Bool:=inA x.tok && inA x.sh && inA x.lost && !(decide (0<x.tok) && decide (x.sh=0)) && (x.jail || !x.dead)
def psh(S:Nat->Nat->Int)(v:Nat):Nat->Int
 | 0=>0
 | j+1=>psh S v j+S j v
def z3G(S:Nat->Nat->Int)(v:Nat):Nat->Bool
 | 0=>true
 | j+1=>z3G S v j && inA (S j v)
def q5h(S:Nat->Nat->Int)(v:Nat)(sh:Int):Bool:=z3G S v 4 && decide (psh S v 4=sh)
def q1t(last next:Int)(w:Wt):Bool:=decide (last<w.num) && decide (w.num<next) && isD w.d && isV w.v && inA w.amt && decide (0<=w.hei) && decide (0<=w.due)
def wOk(next:Int):Int->List Wt->Bool
 | _,[]=>true
 | last,w :: r=>q1t last next w && wOk next w.num r
def z2V:List Wt->Int
 | []=>0
 | w :: r=>w.amt+z2V r
def z8C(V:Nat->Vd):Nat->Int
 | 0=>0
 | k+1=>z8C V k+(V k).tok
def z3S(V:Nat->Vd):Nat->Int
 | 0=>0
 | k+1=>z3S V k+(V k).lost
def j4O(s:St)(v:Nat):Bool:=vOk (s.V v) && q5h s.S v (s.V v).sh
def pvs(s:St):Nat->Bool
 | 0=>true
 | k+1=>pvs s k && j4O s k
def bal(s:St):Bool:=decide (z8C s.V 6=s.b.bo) && decide (z2V s.W=s.b.wa) && decide (z3S s.V 6=s.b.bu)
def z0k(s:St):Bool:=s.b.good && decide (1<=s.next) && decide (s.next<=1125899906842624) && decide (s.W.length<=60) && wOk s.next 0 s.W && pvs s 6 && bal s
def z6z(s:St)(v:Int):Int:=if z0k s=true then if isV v=true then 0 else 4 else 2
def z0Z(s:St)(d v:Int):Int:=if z6z s v=0 then if isD d=true then 0 else 4 else z6z s v
def mdN(a b c:Int):Int:=if a<0∨b<0∨c<1 then 0 else if a * b / c<=1125899906842624 then a * b / c else 0
def mdE(a b c:Int):Int:=if a<0∨b<0∨c<1 then 2 else if a * b / c<=1125899906842624 then 0 else 2
def shN(x:Vd)(n:Int):Int:=if x.sh=0 then n else if x.tok=0 then 0 else if mdE n x.sh x.tok=0/\inA (x.sh+mdN n x.sh x.tok)=true then mdN n x.sh x.tok else 0
def shE(x:Vd)(n:Int):Int:=if x.sh=0 then 0 else if x.tok=0 then 8 else if mdE n x.sh x.tok=0/\inA (x.sh+mdN n x.sh x.tok)=true then if mdN n x.sh x.tok=0 then 8 else 0 else 6
def woN(x:Vd)(n:Int):Int:=if mdE n x.tok x.sh=0 then mdN n x.tok x.sh else 0
def woE(x:Vd)(n:Int):Int:=if mdE n x.tok x.sh=0 then if mdN n x.tok x.sh=0 then 8 else 0 else mdE n x.tok x.sh
def z1Q(V:Nat->Vd)(v:Nat)(x:Vd):Nat->Vd:=fun i=>if i=v then x else V i
def z6T(S:Nat->Nat->Int)(d v:Nat)(n:Int):Nat->Nat->Int:=fun i j=>if i=d/\j=v then n else S i j
def z8S(s:St)(d v:Nat)(t n:Int):St:={ s with V:=z1Q s.V v { s.V v with tok:=(s.V v).tok+t,sh:=(s.V v).sh+n },S:=z6T s.S d v (s.S d v+n) }
theorem z0I{n:Int}:inA n=true↔0<=n/\n<=1125899906842624:=decide_eq_true_iff
theorem z3p{n:Int}:isV n=true↔0<=n/\n<6:=decide_eq_true_iff
theorem z5J{n:Int}:isD n=true↔0<=n/\n<4:=decide_eq_true_iff
end
section
open Go.RowKit
theorem J6{p:Prop}(h:p):Hid p:=h
theorem z8s(d:Int)(w:World):Calls prog 106 #[J I d] w fun e w'=>e=.returned (J3 (isV d))/\w=w':=by
 unfold isV
 by_cases h0:0<=d
 ·by_cases h1:d<6
  ·rw[decide_eq_true ⟨h0,h1⟩]
   go_enter func106,ntmps106
   go_wp2;go_ret;exact⟨rfl,rfl⟩
  ·rw[decide_eq_false (by omega)]
   go_enter func106,ntmps106
   go_wp2;go_ret;exact⟨rfl,rfl⟩
 ·rw[decide_eq_false (by omega)]
  go_enter func106,ntmps106
  go_wp2;go_ret;exact⟨rfl,rfl⟩
theorem z9P(d:Int)(w:World):Calls prog 141 #[J I d] w fun e w'=>e=.returned (J3 (isD d))/\w=w':=by
 unfold isD
 by_cases h0:0<=d
 ·by_cases h1:d<4
  ·rw[decide_eq_true ⟨h0,h1⟩]
   go_enter func141,ntmps141
   go_wp2;go_ret;exact⟨rfl,rfl⟩
  ·rw[decide_eq_false (by omega)]
   go_enter func141,ntmps141
   go_wp2;go_ret;exact⟨rfl,rfl⟩
 ·rw[decide_eq_false (by omega)]
  go_enter func141,ntmps141
  go_wp2;go_ret;exact⟨rfl,rfl⟩
theorem z5I(d:Int)(w:World):Calls prog 142 #[J I d] w fun e w'=>e=.returned (J3 (inA d))/\w=w':=z1E d w
theorem z6L(b o:Nat)(x:Vd)(w:World)(h0:w.cell? ⟨b,o,none⟩=some (J I x.tok))(h1:w.cell? ⟨b,o+1,none⟩=some (J I x.sh))(h2:w.cell? ⟨b,o+2,none⟩=some (J I x.lost))
  (h3:w.cell? ⟨b,o+3,none⟩=some (J3 x.jail)) (j:w.cell? ⟨b,o+4,none⟩=some (J3 x.dead)) :
  Calls prog 136 #[J2 (some ⟨b,o,none⟩)] w fun e w'=>e=.returned (J3 (vOk x))/\w=w':=by
 unfold vOk;have i1:=z5I x.tok;have a:=z5I x.sh;have c:=z5I x.lost;obtain⟨d,f,g,k,l⟩:=x;simp only at *;generalize inA d=t1 at *;generalize inA f=t2 at *;generalize inA g=t3 at *
 go_enter func136,ntmps136
 go_wp2_with (first
  | (go_at_call 142;have _m:=h;refine (c _).mono ?_;rintro e m⟨rfl,rfl⟩)
  | (go_at_call 142;have _m:=i;refine (a _).mono ?_;rintro e w6⟨rfl,rfl⟩;have h:True:=trivial)
  | (go_at_call 142;refine (i1 _).mono ?_;rintro e w5⟨rfl,rfl⟩;have i:True:=trivial))
 all_goals (go_ret;refine⟨?_,rfl⟩;congr 1;congr 1;simp_all)
structure z2L(w:World)(ao:Option Addr)(b o:Nat)(W:List Wt):Prop where
  adr:0<W.length->ao=some ⟨b,o,none⟩
  len:W.length * 64<=140737488351232
  cell:∀ i x,W[i]?=some x->w.cell? ⟨b,o+i * 8,none⟩=some (J I x.num)/\w.cell? ⟨b,o+i * 8+1,none⟩=some (J I x.d)/\w.cell? ⟨b,o+i * 8+2,none⟩=some (J I x.v)/\w.cell? ⟨b,o+i * 8+3,none⟩=some (J I x.amt) /\
    w.cell? ⟨b,o+i * 8+4,none⟩=some (J I x.hei)/\w.cell? ⟨b,o+i * 8+5,none⟩=some (J I x.due)/\w.cell? ⟨b,o+i * 8+6,none⟩=some (J I x.h0)/\w.cell? ⟨b,o+i * 8+7,none⟩=some (J I x.h1)
theorem z2L.later{w w':World}{ao:Option Addr}{b o B:Nat}{W:List Wt}(h:z2L w ao b o W)(hb:Below B w w')(d:0<W.length->b<B):z2L w' ao b o W:=by
  refine⟨h.adr,h.len,fun i x c=>?_⟩;have a:b<B:=d (by have:=(List.getElem?_eq_some_iff.1 c).1;omega)
  have k:∀ o,w'.cell? ⟨b,o,none⟩=w.cell? ⟨b,o,none⟩:=fun o=>hb.cell a;obtain⟨h0,h1,h2,h3,e,f,g,j⟩:=h.cell i x c;exact⟨(k _).trans h0,(k _).trans h1,(k _).trans h2,(k _).trans h3,(k _).trans e,(k _).trans f,(k _).trans g,(k _).trans j⟩
theorem z2L.lt{w:World}{ao:Option Addr}{b o:Nat}{W:List Wt}(h:z2L w ao b o W)(h0:0<W.length):b<w.heap.size:=by
  obtain⟨x,a⟩:∃ x,W[0]?=some x:=⟨W[0],List.getElem?_eq_getElem h0⟩;exact World.block_lt_of_cell? w _ (h.cell 0 x a).1
theorem z2L.over{w w':World}{ao:Option Addr}{b o:Nat}{W:List Wt}(h:z2L w ao b o W)(hb:Bl w w'):z2L w' ao b o W:=h.later hb h.lt
theorem drop_at{α:Type}{l:List α}{k:Nat}(h:k<l.length):∃ x,l[k]?=some x/\l.drop k=x :: l.drop (k+1):=⟨l[k],List.getElem?_eq_getElem h,List.drop_eq_getElem_cons h⟩
def wtC(x:Wt):Array Value:=#[J I x.num,J I x.d,J I x.v,J I x.amt,J I x.hei,J I x.due,J I x.h0,J I x.h1]
theorem z8X(d:Int)(w:World):Calls prog 99 #[J I d] w fun e w'=>e=.returned (J3 (decide (0<d) && inA d))/\w=w':=by
  have i1:=z5I d;generalize inA d=t at *
  go_enter func99,ntmps99
  go_wp2_with (go_at_call 142;refine (i1 _).mono ?_;rintro e w5⟨rfl,rfl⟩)
  all_goals (go_ret;refine⟨?_,rfl⟩;congr 1;congr 1;first | (simp_all;done) | (simp_all;omega) | (simp_all;intros;omega))
theorem q0I(W:List Wt)(ao:Option Addr)(b o c:Nat)(next:Int)(w:World)(h:z2L w ao b o W) :
    Calls prog 135 #[J1 ao W.length c,J I next] w fun e w'=>e=.returned (J3 (wOk next 0 W))/\Bl w w':=by
  have l:=h.len;have HW:Hid (z2L w ao b o W):=h;have a:=h.adr;clear h
  go_enter func135,ntmps135
  go_wp2
  go_loopw [5,10] (fun p i wl=>∃ (k:Nat) (last:Int),k<=W.length/\i=J I (k:Int)/\p=J I last/\Hid (wOk next 0 W=wOk next last (W.drop k)/\Bl w wl)) (fun _ i _=>W.length - (intOf i).toNat)
  case atStart=>exact⟨0,0,Nat.zero_le _,rfl,rfl,rfl,Below.refl _ _⟩
  case round =>
    obtain⟨k,last,u,rfl,rfl,HR⟩:=hrel
    by_cases j:k<W.length
    · obtain⟨x,q,hd⟩:=drop_at j
      have g:Hid (Bl w wr):=HR.out.2;obtain⟨c0,c1,c2,c3,y,z,A,B⟩:=(HW.out.over g.out).cell k x q;have m:Hid (wOk next 0 W=(q1t last next x && wOk next x.num (W.drop (k+1)))):=by have:=HR.out.1;rw[hd]at this;exact this
      clear HR hd;obtain rfl:=a (by omega)
      clear a;have f:w.heap.size<=wr.heap.size:=g.out.size;have r:=z9P x.d;have s:=z8s x.v;have t:=z5I x.amt;have n:Hid (∀ last,q1t last next x=(decide (last<x.num) && decide (x.num<next) && isD x.d && isV x.v && inA x.amt && decide (0<=x.hei) && decide (0<=x.due))):=fun _=>rfl
      generalize isD x.d=t1 at *;generalize isV x.v=t2 at *;generalize inA x.amt=t3 at *
      go_wp2_with (first
        | (go_at_call 141;refine (r _).mono ?_;rintro e w5⟨rfl,rfl⟩)
        | (go_at_call 106;refine (s _).mono ?_;rintro e w6⟨rfl,rfl⟩)
        | (go_at_call 142;refine (t _).mono ?_;rintro e C⟨rfl,rfl⟩))
      all_goals first
        | (go_ret;refine⟨?_,g.out.alloc f _⟩;rw[m.out,n.out];congr 1;congr 1;first | (simp_all;done) | (simp_all;omega) | (simp_all;intros;omega))
        | (go_roundw
           case rel=>exact⟨k+1,x.num,by omega,by go_num,rfl,(by rw[m.out,n.out];simp_all),g.out.alloc f _⟩
           case measure=>simp[intOf];omega)
    · go_wp2
      go_ret;refine⟨?_,HR.out.2⟩;rw[HR.out.1,List.drop_eq_nil_of_le (by omega)]
      rfl
theorem z0B:(prog.info? 43).map (·.size)=some 63:=by kernel_rfl
def SAt(w:World)(b:Nat)(cs:Array Value):Prop:=w.heap[b]?=some (J5 cs 43)
theorem SAt.new(w:World)(cs:Array Value):SAt (w.alloc (J5 cs 43)) w.heap.size cs:=heap_alloc_new _ _
theorem SAt.new2(w:World)(o:Obj)(cs:Array Value):SAt ((w.alloc o).alloc (J5 cs 43)) (w.heap.size+1) cs:=by
 have h:SAt ((w.alloc o).alloc (J5 cs 43)) (w.alloc o).heap.size cs:=SAt.new (w.alloc o) cs
 rwa [show (w.alloc o).heap.size=w.heap.size+1 by simp]at h
theorem SAt.later{w w':World}{b B:Nat}{cs:Array Value}(h:SAt w b cs)(hb:Below B w w')(a:b<B):SAt w' b cs:=(hb.block b a).trans h
theorem SAt.alloc{w:World}{b:Nat}{cs:Array Value}(h:SAt w b cs)(o:Obj):SAt (w.alloc o) b cs:=(Below.heap_alloc _ _ _ (Array.getElem?_eq_some_iff.1 h).1).trans h
theorem SAt.lt{w:World}{b:Nat}{cs:Array Value}(h:SAt w b cs):b<w.heap.size:=(Array.getElem?_eq_some_iff.1 h).1
theorem SAt.other{w:World}{b c o:Nat}{cs:Array Value}(h:SAt w b cs)(hb:b≠c)(v:Value):SAt (w.setCell ⟨c,o,none⟩ v) b cs:=(Below.heap_setCell _ _ _ _ hb).trans h
theorem SAt.cell{w:World}{b:Nat}{cs:Array Value}(h:SAt w b cs)(o:Nat):w.cell? ⟨b,o,none⟩=cs[o]?:=by
 unfold SAt at h
 simp[World.cell?,h]
theorem SAt.free{w:World}{b:Nat}{cs:Array Value}(h:SAt w b cs)(o:Nat):w.frozen? ⟨b,o,none⟩=false:=by
 unfold SAt at h
 simp[World.frozen?,h]
theorem SAt.set{w:World}{b:Nat}{cs:Array Value}(h:SAt w b cs)(o:Nat)(v:Value):SAt (w.setCell ⟨b,o,none⟩ v) b (cs.setIfInBounds o v):=by
 unfold SAt at *
 simp[World.setCell,Array.getElem?_modify,h]
theorem SAt.range{w:World}{b:Nat}{cs:Array Value}(h:SAt w b cs):w.rangeAt b 0 cs.toList:=by
 intro j v a;rw[Nat.zero_add,h.cell]
 simpa using a
theorem SAt.there{w:World}{b:Nat}{cs:Array Value}(h:SAt w b cs)(o n:Nat)(a:o+n<=cs.size):w.there b o n:=by
 intro j c;rw[h.cell,h.free];have:o+j<cs.size:=by omega
 simp[this]
theorem SAt.sets{b:Nat}:∀ (a:List Value) (o:Nat) (w:World) (cs:Array Value),SAt w b cs->SAt (w.setCells b o a) b (spl cs o a)
 | [],_,_,_,h=>h
 | v :: r,o,_,_,h=>SAt.sets r (o+1) _ _ (h.set o v)
theorem SAt.z0L{w:World}{b:Nat}{cs ds:Array Value}(h:SAt w b cs)(hd:ds.size=cs.size):SAt (w.setCells b 0 ds.toList) b ds:=by
 have:=SAt.sets ds.toList 0 w cs h
 rwa [q9y hd]at this
theorem SAt.load{w:World}{b:Nat}{cs:Array Value}(h:SAt w b cs)(hs:cs.size=63):(Instr.loadAt 43 (J2 (some ⟨b,0,none⟩))).run prog w=.ok (J4 cs) w:=by
 have:=run_loadAt_mid (P:=prog) w b 0 43 cs.toList _ h.range underlying43 rfl (by rw[z0B];simp[hs])
 simpa using this
def Z63:Array Value:=#[J I 0,J I 0,J I 0,J I 0,J I 0,J I 0,J I 0,J I 0,J I 0,J I 0,J3 false,J3 false,J I 0,J I 0,J I 0,J3 false,J3 false,J I 0,J I 0,J I 0,J3 false,J3 false,J I 0,J I 0,J I 0,J3 false,J3 false,J I 0,J I 0,J I 0,J3 false,J3 false,J I 0,J I 0,J I 0,J3 false,J3 false,J I 0,J I 0,J I 0,J I 0,J I 0,J I 0,J I 0,J I 0,J I 0,J I 0,J I 0,J I 0,J I 0,J I 0,J I 0,J I 0,J I 0,J I 0,J I 0,J I 0,J I 0,J I 0,J I 0,J I 0,J1 none 0 0,J I 0]
def vsC(V:Nat->Vd):Array Value:=#[J I (V 0).tok,J I (V 0).sh,J I (V 0).lost,J3 (V 0).jail,J3 (V 0).dead,J I (V 1).tok,J I (V 1).sh,J I (V 1).lost,J3 (V 1).jail,J3 (V 1).dead,J I (V 2).tok,J I (V 2).sh,J I (V 2).lost,J3 (V 2).jail,J3 (V 2).dead,J I (V 3).tok,J I (V 3).sh,J I (V 3).lost,J3 (V 3).jail,J3 (V 3).dead,J I (V 4).tok,J I (V 4).sh,J I (V 4).lost,J3 (V 4).jail,J3 (V 4).dead,J I (V 5).tok,J I (V 5).sh,J I (V 5).lost,J3 (V 5).jail,J3 (V 5).dead]
def shC(S:Nat->Nat->Int):Array Value:=#[J I (S 0 0),J I (S 0 1),J I (S 0 2),J I (S 0 3),J I (S 0 4),J I (S 0 5),J I (S 1 0),J I (S 1 1),J I (S 1 2),J I (S 1 3),J I (S 1 4),J I (S 1 5),J I (S 2 0),J I (S 2 1),J I (S 2 2),J I (S 2 3),J I (S 2 4),J I (S 2 5),J I (S 3 0),J I (S 3 1),J I (S 3 2),J I (S 3 3),J I (S 3 4),J I (S 3 5)]
def bkC(b:Bk):Array Value:=#[J I b.f0,J I b.f1,J I b.f2,J I b.f3,J I b.bo,J I b.wa,J I b.bu]
def stL(b:Bk)(V:Nat->Vd)(S:Nat->Nat->Int)(sl:Value)(next:Int):List Value:=(bkC b).toList ++ ((vsC V).toList ++ ((shC S).toList ++ [sl,J I next]))
def stC(s:St)(sl:Value):Array Value:=(stL s.b s.V s.S sl s.next).toArray
theorem z0f(s:St)(sl:Value):(stC s sl).size=63:=rfl
theorem j8D{w:World}{b:Nat}{s:St}{sl:Value}(h:SAt w b (stC s sl)):w.rangeAt b 7 (vsC s.V).toList:=by
 intro j v a;have c:j<30:=(List.getElem?_eq_some_iff.1 a).1;rw[h.cell];simp only[stC,stL,List.getElem?_toArray];rw[List.getElem?_append_right (by show 7<=7+j;omega),show 7+j - (bkC s.b).toList.length=j from by show 7+j - 7=j;omega,List.getElem?_append_left (show j<(vsC s.V).toList.length from c)]
 exact a
theorem z0u{w:World}{b:Nat}{s:St}{sl:Value}(h:SAt w b (stC s sl)):w.cell? ⟨b,0,none⟩=some (J I s.b.f0)/\w.cell? ⟨b,1,none⟩=some (J I s.b.f1)/\w.cell? ⟨b,2,none⟩=some (J I s.b.f2)/\w.cell? ⟨b,3,none⟩=some (J I s.b.f3)/\w.cell? ⟨b,4,none⟩=some (J I s.b.bo)/\w.cell? ⟨b,5,none⟩=some (J I s.b.wa)/\w.cell? ⟨b,6,none⟩=some (J I s.b.bu)/\w.cell? ⟨b,61,none⟩=some sl/\w.cell? ⟨b,62,none⟩=some (J I s.next):=
 ⟨(h.cell 0).trans rfl,(h.cell 1).trans rfl,(h.cell 2).trans rfl,(h.cell 3).trans rfl,(h.cell 4).trans rfl,(h.cell 5).trans rfl,(h.cell 6).trans rfl,(h.cell 61).trans rfl,(h.cell 62).trans rfl⟩
theorem j4A:(prog.info? 38).map (·.size)=some 30:=by kernel_rfl
theorem ixV(w:World)(V:Nat->Vd)(k:Nat)(a:k<6):(Instr.index 38 (J4 (vsC V)) (J I k)).run prog w=.ok (J4 #[J I (V k).tok,J I (V k).sh,J I (V k).lost,J3 (V k).jail,J3 (V k).dead]) w:=by
 rcases (show k=0∨k=1∨k=2∨k=3∨k=4∨k=5 by omega) with rfl | rfl | rfl | rfl | rfl | rfl <;> kernel_rfl
theorem SAt.val{w:World}{b:Nat}{s:St}{sl:Value}(h:SAt w b (stC s sl))(k:Nat)(a:k<6):w.cell? ⟨b,7+k * 5,none⟩=some (J I (s.V k).tok)/\w.cell? ⟨b,7+k * 5+1,none⟩=some (J I (s.V k).sh)/\w.cell? ⟨b,7+k * 5+2,none⟩=some (J I (s.V k).lost)/\w.cell? ⟨b,7+k * 5+3,none⟩=some (J3 (s.V k).jail)/\w.cell? ⟨b,7+k * 5+4,none⟩=some (J3 (s.V k).dead):=by
 rcases (show k=0∨k=1∨k=2∨k=3∨k=4∨k=5 by omega) with rfl | rfl | rfl | rfl | rfl | rfl <;> exact⟨(h.cell _).trans rfl,(h.cell _).trans rfl,(h.cell _).trans rfl,(h.cell _).trans rfl,(h.cell _).trans rfl⟩
theorem SAt.shr{w:World}{b:Nat}{s:St}{sl:Value}(h:SAt w b (stC s sl))(d v:Nat)(hd:d<4)(a:v<6):w.cell? ⟨b,37+d * 6+v,none⟩=some (J I (s.S d v)):=by
 rcases (show d=0∨d=1∨d=2∨d=3 by omega) with rfl | rfl | rfl | rfl <;> rcases (show v=0∨v=1∨v=2∨v=3∨v=4∨v=5 by omega) with rfl | rfl | rfl | rfl | rfl | rfl <;> exact (h.cell _).trans rfl
theorem z0E(s:St)(sa:Option Addr)(n c:Nat):(stC s (J1 sa n c)).all (·.oneCell')=true:=by simp[stC,stL,bkC,vsC,shC,Value.oneCell']
theorem j0m:(prog.info? 63).map (fun i=>(i.zero,i.size,i.bytes))=some (some (J4 #[J I 0,J I 0,J I 0,J I 0,J I 0,J I 0,J I 0,J I 0]),8,64):=by kernel_rfl
def wtL(x:Wt):List Value:=[J I x.num,J I x.d,J I x.v,J I x.amt,J I x.hei,J I x.due,J I x.h0,J I x.h1]
theorem j2O(ao:Option Addr)(n c:Nat)(a:n<=c)(h0:ao=none->n=0)(hc:(n:Int)<4611686018427387904)(w:World):Calls prog 105 #[J1 ao n c] w fun e w'=>e=.returned (J1 ao n n)/\w=w':=by
 have h1:(n:Int)<=(c:Int):=by omega
 have h2:(0:Int)<=(n:Int):=by omega
 go_enter func105,ntmps105
 cases ao
 ·obtain rfl:=h0 rfl;go_wp2;go_ret;exact⟨rfl,rfl⟩
 ·clear h0;go_wp2;go_ret;exact⟨rfl,rfl⟩
theorem z2e(x:Wt):(wtL x).length=8:=rfl
def wsL(W:List Wt):List Value:=W.flatMap wtL
theorem z1K:∀ W:List Wt,(wsL W).length=W.length * 8
 | []=>rfl
 | x :: W=>by show (wtL x ++ wsL W).length=_;rw[List.length_append,z1K W,z2e,List.length_cons];omega
theorem z4I:∀ (W:List Wt) (i:Nat) (x:Wt) (j:Nat),W[i]?=some x->j<8->(wsL W)[i * 8+j]?=(wtL x)[j]?
 | [],i,x,j,h,_=>by simp at h
 | y :: W,0,x,j,h,hj=>by
  simp at h
  subst h
  show (wtL y ++ wsL W)[0 * 8+j]?=_
  rw[List.getElem?_append_left (by rw[z2e];omega),Nat.zero_mul,Nat.zero_add]
 | y :: W,i+1,x,j,h,hj=>by
  show (wtL y ++ wsL W)[(i+1) * 8+j]?=_
  rw[List.getElem?_append_right (by rw[z2e];omega),z2e,show (i+1) * 8+j - 8=i * 8+j by omega]
  exact z4I W i x j (by simpa using h) hj
theorem q3K{w:World}{ao:Option Addr}{b o:Nat}{W:List Wt}(h:z2L w ao b o W):∀ j v,(wsL W)[j]?=some v->w.cell? ⟨b,o+j,none⟩=some v:=by
 intro j v c;have f:=(List.getElem?_eq_some_iff.1 c).1;rw[z1K]at f;have a:j / 8<W.length:=by omega
 have d:W[j / 8]?=some (W[j / 8]'a):=List.getElem?_eq_getElem a;have e:=z4I W (j / 8) _ (j % 8) d (by omega)
 rw[show j / 8 * 8+j % 8=j by omega,c]at e
 obtain⟨c0,c1,c2,c3,g,i,k,l⟩:=h.cell _ _ d;have hd:j=j / 8 * 8+j % 8:=by omega
 generalize W[j / 8]'a=x at *;generalize m:j / 8=q at *;have n:j % 8<8:=by omega
 generalize j % 8=r at *;subst hd
 rcases (show r=0∨r=1∨r=2∨r=3∨r=4∨r=5∨r=6∨r=7 by omega) with rfl | rfl | rfl | rfl | rfl | rfl | rfl | rfl <;> simp[wtL]at e <;> subst e <;> rw[<- Nat.add_assoc] <;> assumption
theorem q2M{w:World}{b:Nat}{W:List Wt}(a:W.length * 64<=140737488351232)(h:∀ j v,(wsL W)[j]?=some v->w.cell? ⟨b,j,none⟩=some v):z2L w (some ⟨b,0,none⟩) b 0 W:=by
 refine⟨fun _=>rfl,a,fun i x c=>?_⟩
 have k:∀ j,j<8->∀ v,(wtL x)[j]?=some v->w.cell? ⟨b,0+i * 8+j,none⟩=some v:=fun j d v e=>by
  rw[Nat.zero_add];exact h _ _ ((z4I W i x j c d).trans e)
 exact⟨k 0 (by omega) _ rfl,k 1 (by omega) _ rfl,k 2 (by omega) _ rfl,k 3 (by omega) _ rfl,k 4 (by omega) _ rfl,k 5 (by omega) _ rfl,k 6 (by omega) _ rfl,k 7 (by omega) _ rfl⟩
theorem j4z(w:World)(L:List Wt)(arr tail:Array Value)(d:arr.toList=wsL L)(e:TypeId)(f:L.length * 64<=140737488351232):z2L (w.drew.alloc (J5 (arr ++ tail) e)) (some ⟨w.heap.size,0,none⟩) w.heap.size 0 L:=by
 refine q2M f fun j v c=>?_;have h:(w.drew.alloc (J5 (arr ++ tail) e)).heap[w.heap.size]?=some (J5 (arr ++ tail) e):=heap_alloc_new w.drew _;have a:arr[j]?=some v:=by rw[<- d]at c;simpa using c
 have b:=(Array.getElem?_eq_some_iff.1 a).1;simp only[World.cell?,h];rw[Array.getElem?_append_left b]
 simp[a]
theorem ap1(w:World)(ao:Option Addr)(sb so y:Nat)(W:List Wt)(x:Wt)(g:z2L w ao sb so W)(h:W.length<=60)(l:∀ j v,(wtL x)[j]?=some v->w.cell? ⟨y,j,none⟩=some v) :
  ∃ C w',(Builtin.append_ #[41,41] 41 #[J1 ao W.length W.length,J1 (some ⟨y,0,none⟩) 1 1]).run prog w=.ok (J1 (some ⟨w.heap.size,0,none⟩) (W.length+1) C) w'/\W.length+1<=C /\
   z2L w' (some ⟨w.heap.size,0,none⟩) w.heap.size 0 (W ++ [x])/\Bl w w':=by
 obtain⟨i0,k,d,c,e⟩:=info_parts j0m;have b:∀ j v,(wtL x)[j]?=some v->w.cell? ((⟨y,0,none⟩:Addr).add j)=some v:=fun j v f=>by rw[Addr.add_lit,Nat.zero_add];exact l j v f
 have m:wsL (W ++ [x])=wsL W ++ wtL x:=by unfold wsL;rw[List.flatMap_append];simp
 have i:∀ n:Nat,n<=60->Builtin.nextslicecap (n+1) n * 64<=281474976710656:=fun n o=>by
  rcases Nat.eq_zero_or_pos n with rfl | hp
  ·rw[nextslicecap_zero (by omega)];omega
  ·have:=nextslicecap_succ hp;omega
 cases ao with
 | none =>
  have h0:W.length=0:=by
   rcases Nat.eq_zero_or_pos W.length with h0 | h0
   ·exact h0
   ·have:=g.adr h0;cases this
  obtain rfl:W=[]:=List.length_eq_zero_iff.1 h0;refine⟨_,_,run_append_nil (P:=prog) w 41 41 63 i0 _ underlying41 k d ⟨y,0,none⟩ 1 1 (wtL x) (by rw[c];rfl) b (by omega) (by omega) (by rw[e];omega),grownCap_ge _ _ _ _,?_,(Below.refl _ w).drew.alloc (Nat.le_refl _) _⟩
  exact j4z w [x] _ _ (by simp[wsL]) _ (by simp)
 | some a =>
  have hold:∀ j v,(wsL W)[j]?=some v->w.cell? (a.add j)=some v:=fun j v f=>by
   have h0:0<W.length:=by
    have:=(List.getElem?_eq_some_iff.1 f).1;rw[z1K]at this;omega
   have:=g.adr h0;cases this;rw[Addr.add_lit];exact q3K g j v f
  refine⟨_,_,run_append_grow (P:=prog) w 41 41 63 i0 _ underlying41 k d a W.length W.length (wsL W) (by rw[z1K,c]) hold ⟨y,0,none⟩ 1 1 (wtL x) (by rw[c];rfl) b (by omega) (by omega) (by rw[e];exact i _ h),grownCap_ge _ _ _ _,?_,(Below.refl _ w).drew.alloc (Nat.le_refl _) _⟩
  exact j4z w (W ++ [x]) _ _ (by simp[m]) _ (by simp;omega)
theorem eqA(w:World)(a b c d b0 b1 b2 b3:Int):(Op.equalIn 9999 33 (J4 #[J I a,J I b,J I c,J I d]) (J4 #[J I b0,J I b1,J I b2,J I b3])).run prog w=.ok (decide (a=b0/\b=b1/\c=b2/\d=b3)) w:=by
 have e:(prog.info? 3).isSome=true:=by kernel_rfl
 obtain⟨i,e⟩:=Option.isSome_iff_exists.1 e;have hc:prog.cellsOf 3=1:=by kernel_rfl
 rw[run_equalIn_array w 9998 _ _ underlying33 e,hc,show List.range 4=[0,1,2,3] from rfl];simp only[Op.eqItems];go_simp
 by_cases h0:a=b0 <;> by_cases h1:b=b1 <;> by_cases h2:c=b2 <;> by_cases h3:d=b3 <;> simp[h0,h1,h2,h3]
theorem eqB(w:World)(a b c d f i j b0 b1 b2 b3 k l m:Int):(binOp .eql 35 (J4 #[J I a,J I b,J I c,J I d,J I f,J I i,J I j]) (J4 #[J I b0,J I b1,J I b2,J I b3,J I k,J I l,J I m])).run prog w=.ok (J3 (decide (a=b0/\b=b1/\c=b2/\d=b3/\f=k/\i=l/\j=m))) w:=by
 have h:=fun w=>eqA w a b c d b0 b1 b2 b3;rw[run_eql_struct]
 by_cases n:a=b0/\b=b1/\c=b2/\d=b3
 ·rw[decide_eq_true n]at h;obtain⟨h0,h1,h2,h3⟩:=n;go_simp;subst h0 h1 h2 h3
  by_cases o:f=k <;> by_cases p:i=l <;> by_cases q:j=m <;> simp[o,p,q,h]
 ·rw[decide_eq_false n]at h;have e:decide (a=b0/\b=b1/\c=b2/\d=b3/\f=k/\i=l/\j=m)=false:=decide_eq_false (fun g=>n ⟨g.1,g.2.1,g.2.2.1,g.2.2.2.1⟩);rw[e];go_simp
end
section
def z0Q(s:St)(d v n:Int):St×Int:=
 if z0Z s d v=0 then
  if (s.V v.toNat).dead=true then (s,15)
  else if (decide (0<n) && inA n)=true then
   if shE (s.V v.toNat) n=0 then
    if (z2T s.b d n).2=0 then (z8S { s with b:=(z2T s.b d n).1 } d.toNat v.toNat n (shN (s.V v.toNat) n),0)
    else (s,(z2T s.b d n).2)
   else (s,shE (s.V v.toNat) n)
  else (s,2)
 else (s,z0Z s d v)
end
namespace Wd
open Go.ChangeShapes Go.WideShapes Go.ChangeAt Go.RowKit Go.Deep
section
variable {H:Type} {enc:TypeId×Value->H} {W:World}
structure Dd where
 k:Int
 c:Int
 d:Int
 v:Int
 n:Int
 b:Bool
 f:Bool
def ddC(x:Dd):Array Value:=#[J I x.k,J I x.c,J I x.d,J I x.v,J I x.n,J3 x.b,J3 x.f]
end
end Wd
/-
 The arithmetic under MulDiv,no Go in sight: that a division of 128 bits by 64,two digits of 32 bits each (as the library's text goes),gives the quotient;and the reference's way,bit by bit.
-/
namespace Ra
theorem q3X(a y0 u u1 q r:Int)(b:0<a * 4294967296+y0)(hu:q * a+r=u) :
  (4294967296 * r+u1<q * y0)↔(u * 4294967296+u1) / (a * 4294967296+y0)<q:=by
 rw[Int.ediv_lt_iff_lt_mul b,Int.mul_add,<- Int.mul_assoc];generalize q * a=p1 at *;generalize q * y0=p0 at *;omega
theorem j4n(a y0 u u1:Int)(b:0<a * 4294967296+y0)(hu:u<a * 4294967296+y0)(h1:u1<4294967296) :
  (u * 4294967296+u1) / (a * 4294967296+y0)<4294967296:=by
 rw[Int.ediv_lt_iff_lt_mul b];omega
theorem q3b(a y0 u u1:Int)(h0:0<=y0)(d:y0<4294967296)(h1:2147483648<=a)(b:0<=u)(hu:u<a * 4294967296+y0)(f:0<=u1)(c:u1<4294967296) :
  (u * 4294967296+u1) / (a * 4294967296+y0)<=u / a/\u / a<=4294967297:=by
 constructor
 ·have e:=Int.mul_ediv_add_emod u a;have m:=Int.emod_lt_of_pos u (show 0<a by omega)
  have:(u * 4294967296+u1) / (a * 4294967296+y0)<u / a+1:=by
   rw[Int.ediv_lt_iff_lt_mul (by omega)]
   have q0:0<=u / a:=Int.ediv_nonneg b (by omega)
   have:0<=(u / a+1) * y0:=Int.mul_nonneg (by omega) h0
   rw[Int.mul_add,<- Int.mul_assoc,Int.add_mul (u / a) 1 a,Int.mul_comm (u / a) a];generalize (u / a+1) * y0=p0 at *;generalize a * (u / a)=p1 at *;omega
  omega
 ·have:u / a<4294967298:=by
   rw[Int.ediv_lt_iff_lt_mul (by omega)]
   omega
  omega
theorem q5o(Y u a b:Int)(c:0<Y) :
  (u * 4294967296+a) / Y * 4294967296+(((u * 4294967296+a) % Y) * 4294967296+b) / Y=(u * 18446744073709551616+a * 4294967296+b) / Y:=by
 have e:=Int.mul_ediv_add_emod (u * 4294967296+a) Y;generalize (u * 4294967296+a) / Y=q at *;generalize (u * 4294967296+a) % Y=r at *
 have:u * 18446744073709551616+a * 4294967296+b=r * 4294967296+b+q * 4294967296 * Y:=by
  have:Y * q * 4294967296=q * 4294967296 * Y:=by rw[Int.mul_comm Y q,Int.mul_right_comm]
  omega
 rw[this,Int.add_mul_ediv_right _ _ (by omega)]
 omega
theorem q5F(U y p:Int)(hp:0<p):U * p / (y * p)=U / y:=Int.mul_ediv_mul_of_pos_left U y hp
/-! ### the reference: bit by bit -/
/-! ### a digit's loop -/
def Dig(a u Q q r:Int):Prop:=q * a+r=u/\Q<=q/\0<=q/\q<=4294967297/\0<=r/\r<4294967296
theorem Dig.prod{a u Q q r:Int}(h:Dig a u Q q r){y0:Int}(h0:0<=y0)(b:y0<4294967296):0<=q * y0/\q * y0<18446744073709551616:=by
 obtain⟨_,_,h1,h2,_,_⟩:=h;refine⟨Int.mul_nonneg h1 h0,?_⟩;have:=Int.mul_le_mul h2 (show y0<=4294967295 by omega) h0 (by omega)
 omega
theorem Dig.gt{a u Q q r:Int}(h:Dig a u Q q r){y0 u1:Int}(b:0<a * 4294967296+y0)(c:Q=(u * 4294967296+u1) / (a * 4294967296+y0)):(4294967296 * r+u1<q * y0)↔Q<q:=by
 rw[c];exact q3X a y0 u u1 q r b h.1
theorem Dig.next{a u Q q r:Int}(h:Dig a u Q q r)(c:Q<q)(d:0<=Q)(h1:0<=a)(b:r+a<4294967296):Dig a u Q (q - 1) (r+a):=by
 obtain⟨e,h2,h3,f,g,i⟩:=h;refine⟨?_,by omega,by omega,by omega,by omega,b⟩
 rw[Int.sub_mul];generalize q * a=p at *;omega
theorem Dig.last{a u Q q r:Int}(h:Dig a u Q q r)(j:Q<q){y0 u1:Int}(h0:0<=y0)(c:y0<4294967296)(hu:0<=u1)(d:0<a * 4294967296+y0)(f:Q=(u * 4294967296+u1) / (a * 4294967296+y0))(k:4294967296<=r+a):q - 1=Q:=by
 obtain⟨e,h2,h3,l,m,n⟩:=h
 have i:(q - 1) * a+(r+a)=u:=by
  rw[Int.sub_mul];generalize q * a=p at *;omega
 have g:=q3X a y0 u u1 (q - 1) (r+a) d i;rw[<- f]at g;have b:=Int.mul_le_mul (show q - 1<=4294967296 by omega) (show y0<=4294967295 by omega) h0 (by omega)
 generalize (q - 1) * y0=p at *;omega
theorem Dig.first(a y0 u u1 Q:Int)(h0:0<=y0)(d:y0<4294967296)(h1:2147483648<=a)(h:a<4294967296)(c:0<=u)(hu:u<a * 4294967296+y0)(g:0<=u1)(b:u1<4294967296)(i:Q=(u * 4294967296+u1) / (a * 4294967296+y0)) :
  Dig a u Q (u / a) (u % a)/\0<=Q/\Q<4294967296/\0<=u / a * a/\u / a * a<=u/\u - u / a * a=u % a:=by
 have f:=q3b a y0 u u1 h0 d h1 c hu g b;have l:=j4n a y0 u u1 (by omega) hu b
 have n:0<=(u * 4294967296+u1) / (a * 4294967296+y0):=Int.ediv_nonneg (by omega) (by omega)
 rw[<- i]at f l n;have e:=Int.mul_ediv_add_emod u a;rw[Int.mul_comm]at e;have m:=Int.emod_lt_of_pos u (show 0<a by omega)
 have j:=Int.emod_nonneg u (show a≠0 by omega)
 have q0:0<=u / a:=Int.ediv_nonneg c (by omega)
 have p0:0<=u / a * a:=Int.mul_nonneg q0 (by omega)
 have D:Dig a u Q (u / a) (u % a):=⟨e,f.1,q0,f.2,j,by omega⟩
 exact⟨D,n,l,p0,by omega,by omega⟩
end Ra
namespace Ra
theorem q7i(y:Nat)(a:0<y)(c:y<9223372036854775808):∃ s:Nat,bitLen y+s=64/\1<=s/\s<=63/\9223372036854775808<=y * 2 ^ s/\y * 2 ^ s<18446744073709551616:=by
 obtain⟨h1,h2⟩:=bitLen_spec y;have h2:=h2 (by omega)
 have b:bitLen y≠0:=by intro h;rw[h]at h1;omega
 have hb:bitLen y<=63:=by
  apply Decidable.byContradiction;intro h;have:2 ^ 63<=2 ^ (bitLen y - 1):=Nat.pow_le_pow_right (by decide) (by omega)
  omega
 refine⟨64 - bitLen y,by omega,by omega,by omega,?_,?_⟩
 ·have e:2 ^ (bitLen y - 1) * 2 ^ (64 - bitLen y)=2 ^ 63:=by rw[<- Nat.pow_add];congr 1;omega
  have:=Nat.mul_le_mul_right (2 ^ (64 - bitLen y)) h2;omega
 ·have e:2 ^ bitLen y * 2 ^ (64 - bitLen y)=2 ^ 64:=by rw[<- Nat.pow_add];congr 1;omega
  have:=Nat.mul_lt_mul_of_pos_right h1 (Nat.two_pow_pos (64 - bitLen y));omega
theorem q6J(d c y s:Nat)(hs:1<=s)(g:s<=63)(h:d<y)(i:c<18446744073709551616)(l:y * 2 ^ s<18446744073709551616) :
  (d * 18446744073709551616+c) * 2 ^ s=(d * 2 ^ s+c / 2 ^ (64 - s)) * 18446744073709551616+c * 2 ^ s % 18446744073709551616/\d * 2 ^ s+c / 2 ^ (64 - s)<y * 2 ^ s /\
  d * 2 ^ s<18446744073709551616/\c / 2 ^ (64 - s)<2 ^ s:=by
 have f:2 ^ (64 - s) * 2 ^ s=18446744073709551616:=by rw[<- Nat.pow_add,show 64 - s+s=64 by omega]
 have j:c * 2 ^ s / 18446744073709551616=c / 2 ^ (64 - s):=by rw[<- f];exact Nat.mul_div_mul_right c (2 ^ (64 - s)) (Nat.two_pow_pos s)
 have k:=Nat.div_add_mod (c * 2 ^ s) 18446744073709551616;rw[j]at k
 have e:(d * 18446744073709551616+c) * 2 ^ s=(d * 2 ^ s+c / 2 ^ (64 - s)) * 18446744073709551616+c * 2 ^ s % 18446744073709551616:=by
  rw[Nat.add_mul,Nat.add_mul,Nat.mul_right_comm];generalize d * 2 ^ s=a;generalize c * 2 ^ s=b at *;omega
 have b1:d * 18446744073709551616+c<y * 18446744073709551616:=by omega
 have b2:=Nat.mul_lt_mul_of_pos_right b1 (Nat.two_pow_pos s);rw[e,Nat.mul_right_comm]at b2;have b3:c / 2 ^ (64 - s)<2 ^ s:=by rw[Nat.div_lt_iff_lt_mul (Nat.two_pow_pos _),Nat.mul_comm,f];exact i
 refine⟨e,?_,?_,b3⟩
 ·generalize y * 2 ^ s=Y at *;generalize d * 2 ^ s+c / 2 ^ (64 - s)=u at *;omega
 ·have:=Nat.mul_le_mul_right (2 ^ s) (Nat.le_of_lt h);omega
theorem j5A(a b s:Nat)(d:a * 2 ^ s<18446744073709551616)(hb:b<2 ^ s)(c:b<18446744073709551616):bits .or .u64 ((a * 2 ^ s:Nat):Int) (b:Int)=((a * 2 ^ s+b:Nat):Int):=by
 rw[bits_or_u64_nat _ _ d c,Nat.mul_comm a,Nat.two_pow_add_eq_or_of_lt hb]
end Ra
section
theorem j7L{b:Bk}{f t:Nat}{n:Int}(h:(mv b f t n).2≠0):(mv b f t n).1=b:=by
 unfold mv at *
 split
 ·rfl
 ·rename_i h1;rw[if_neg h1]at h
  split
  ·rfl
  ·rename_i h2;rw[if_neg h2]at h;exact absurd rfl h
theorem q0N{b:Bk}{f t:Nat}{n:Int}(a:b.good=true)(h0:0<=n)(h1:n<=1125899906842624)(h2:n<=b.get f):mv b f t n=((b.put f (b.get f - n)).put t (b.get t+n),0):=by
 unfold mv;rw[if_neg (by rw[a];simp[h0,h1]),if_neg (by omega)]
theorem q2C{b:Bk}{f t:Nat}{n:Int}(h:(mv b f t n).2=0):b.good=true/\0<=n/\n<=1125899906842624/\n<=b.get f/\mv b f t n=((b.put f (b.get f - n)).put t (b.get t+n),0):=by
 by_cases h1:b.good=false∨¬ (0<=n/\n<=1125899906842624)
 ·unfold mv at h;rw[if_pos h1]at h;exact absurd h (by simp)
 ·by_cases h2:b.get f<n
  ·unfold mv at h;rw[if_neg h1,if_pos h2]at h;exact absurd h (by simp)
  ·have c:b.good=true:=by
    cases hb:b.good with
    | true=>rfl
    | false=>exact absurd (.inl hb) h1
   have a:0<=n/\n<=1125899906842624:=Decidable.byContradiction fun a=>h1 (.inr a);exact⟨c,a.1,a.2,by omega,q0N c a.1 a.2 (by omega)⟩
def Goes(f t:Nat):Prop:=(f<4/\t=4)∨(f=5/\t<4)∨(f=4/\t=5)∨(f=4/\t=6)∨(f=5/\t=6)
theorem z6a(b:Bk):b.good=true↔(0<=b.f0/\b.f0<=400000)/\(0<=b.f1/\b.f1<=400000)/\(0<=b.f2/\b.f2<=400000)/\(0<=b.f3/\b.f3<=400000)/\(0<=b.bo/\b.bo<=400000)/\(0<=b.wa/\b.wa<=400000)/\(0<=b.bu/\b.bu<=400000)/\b.f0+b.f1+b.f2+b.f3+b.bo+b.wa+b.bu=400000:=by
 unfold Bk.good z1I;exact decide_eq_true_iff
theorem q0t{b:Bk}{f t:Nat}{n:Int}(a:Goes f t)(c:b.good=true)(h0:0<=n)(h2:n<=b.get f) :
  ((b.put f (b.get f - n)).put t (b.get t+n)).good=true/\b.bu<=((b.put f (b.get f - n)).put t (b.get t+n)).bu:=by
 rw[z6a]at *
 rcases a with⟨hf,rfl⟩ | ⟨rfl,ht⟩ | ⟨rfl,rfl⟩ | ⟨rfl,rfl⟩ | ⟨rfl,rfl⟩
 ·rcases (show f=0∨f=1∨f=2∨f=3 by omega) with rfl | rfl | rfl | rfl <;> simp only[Bk.get,Bk.put]at * <;> omega
 ·rcases (show t=0∨t=1∨t=2∨t=3 by omega) with rfl | rfl | rfl | rfl <;> simp only[Bk.get,Bk.put]at * <;> omega
 all_goals simp only[Bk.get,Bk.put]at * <;> omega
structure Kept(b:Bk)(r:Bk×Int):Prop where
 no:r.2≠0->r.1=b
 yes:r.2=0->b.good=true/\r.1.good=true/\b.bu<=r.1.bu
theorem j0Z(b:Bk){f t:Nat}(n:Int)(a:Goes f t):Kept b (mv b f t n):=by
 refine⟨j7L,fun h=>?_⟩;obtain⟨h1,h2,h3,c,d⟩:=q2C h;rw[d];exact⟨h1,q0t a h1 h2 c⟩
theorem q8E(b:Bk)(d n:Int):Kept b (z2T b d n):=by
 unfold z2T
 split
 ·exact j0Z b n (.inl ⟨by omega,rfl⟩)
 ·exact⟨fun _=>rfl,fun h=>absurd h (by simp)⟩
theorem j3J(b:Bk)(d n:Int):Kept b (z8J b d n):=by
 unfold z8J
 split
 ·exact j0Z b n (.inr (.inl ⟨rfl,by omega⟩))
 ·exact⟨fun _=>rfl,fun h=>absurd h (by simp)⟩
end
section
open Go.RowKit
def j2c(x y:Int):Int:=if x<y then -1 else if y<x then 1 else 0
theorem j7e(x y:Int):j2c x y=if x<y then -1 else if y<x then 1 else 0:=rfl
def j2p(a b:Int×Int):Int:=j2c a.1 b.1
def j8F(a b:Int×Int):Int:=if a.2=b.2 then j2p a b else j2c b.2 a.2
theorem z7L(x:Int)(w:World):Calls prog 185 #[J I x] w fun e w'=>e=.returned (J3 false)/\w=w':=by
 go_enter func185,ntmps185
 go_wp2;go_ret;exact⟨by simp,rfl⟩
theorem q4m(x y:Int)(w:World):Calls prog 155 #[J I x,J I y] w fun e w'=>e=.returned (J I (j2c x y))/\w=w':=by
 have a:=J6 (j7e x y);generalize j2c x y=r at *
 go_enter func155,ntmps155
 go_wp2_with (go_at_call 185;refine (z7L _ _).mono ?_;rintro e w1⟨rfl,rfl⟩)
 all_goals (go_ret;refine⟨?_,rfl⟩;have h:=a.out;first | (simp_all;done) | (simp_all;omega) | (rw[h,if_neg (by omega),if_neg (by omega)];rfl) | (rw[h,if_neg (by omega),if_pos (by omega)];rfl) | (rw[h,if_pos (by omega)];rfl))
theorem z7c(a b:Int×Int)(w:World):Calls prog 114 #[J4 #[J I a.1,J I a.2],J4 #[J I b.1,J I b.2]] w fun e w'=>e=.returned (J I (j2p a b))/\Bl w w':=by
 have hc:=q4m a.1 b.1;unfold j2p;generalize j2c a.1 b.1=r at *
 go_enter func114,ntmps114
 go_wp2_with (go_at_call 155;refine (hc _).mono ?_;rintro e w1⟨rfl,rfl⟩)
 go_ret;exact⟨rfl,(znw _ _).alloc (by simp) _⟩
theorem q2R(a b:Int×Int)(w:World):Calls prog 113 #[J4 #[J I a.1,J I a.2],J4 #[J I b.1,J I b.2]] w fun e w'=>e=.returned (J I (j8F a b))/\Bl w w':=by
 have hc:=q4m b.2 a.2;have c:=fun w=>z7c a b w
 by_cases h:a.2=b.2
 ·have e:j8F a b=j2p a b:=if_pos h;rw[e];generalize j2p a b=r at *;have hb:(a.2 != b.2)=false:=by simpa using h
  clear hc;obtain⟨d,f⟩:=a;obtain⟨b1,b2⟩:=b;simp only at *;subst h
  go_enter func113,ntmps113
  go_wp2_with (go_at_call 114;refine (c _).mono ?_;rintro e w1⟨rfl,h1⟩)
  go_ret;exact⟨rfl,((znw _ _).alloc (by simp) _).trans (h1.mono (by simp;omega))⟩
 ·have e:j8F a b=j2c b.2 a.2:=if_neg h;rw[e];generalize j2c b.2 a.2=r at *;have hb:(a.2 != b.2)=true:=by simpa using h
  go_enter func113,ntmps113
  go_wp2_with (go_at_call 155;refine (hc _).mono ?_;rintro e w1⟨rfl,rfl⟩)
  go_ret;exact⟨rfl,(znw _ _).alloc (by simp) _⟩
theorem z5z{n:Int}(h0:-9223372036854775808<=n)(h1:n<9223372036854775808):IntKind.i64.wrap n=n:=by
 rw[IntKind.wrap_i64];omega
abbrev Pw:=Int×Int
def pz:Pw:=(0,0)
def swapAt(l:List Pw)(p:Nat):List Pw:=(l.set (p+1) (l.getD p pz)).set p (l.getD (p+1) pz)
def z8B(lt:Pw->Pw->Bool):Nat->List Pw->List Pw
 | 0,l=>l
 | p+1,l=>if lt (l.getD (p+1) pz) (l.getD p pz)=true then z8B lt p (swapAt l p) else l
def z1D(lt:Pw->Pw->Bool)(l:List Pw):Nat->List Pw
 | 0=>l
 | m+1=>z8B lt (m+1) (z1D lt l m)
def z2U(lt:Pw->Pw->Bool)(l:List Pw):List Pw:=z1D lt l (l.length - 1)
def ltV(a b:Pw):Bool:=decide (j2p a b<0)
def ltP(a b:Pw):Bool:=decide (j8F a b<0)
def z1W(w:World)(g:Nat)(l:List Pw):Prop:=∃ a,w.heap[g]?=some (J5 a 65 (0,0))/\∀ i x,l[i]?=some x->a[i * 2]?=some (J I x.1)/\a[i * 2+1]?=some (J I x.2)
theorem z3D(l:List Pw)(p:Nat):(swapAt l p).length=l.length:=by simp[swapAt]
theorem z9c(lt:Pw->Pw->Bool):∀ (j:Nat) (l:List Pw),(z8B lt j l).length=l.length
 | 0,_=>rfl
 | p+1,l=>by rw[z8B];split;rw[z9c lt p,z3D];rfl
theorem z1Z(lt:Pw->Pw->Bool)(l:List Pw):∀ m,(z1D lt l m).length=l.length
 | 0=>rfl
 | m+1=>by rw[z1D,z9c,z1Z lt l m]
structure z3q(g:Nat)(w w':World):Prop where
 os:w'.os=w.os
 tape:w'.tape=w.tape
 output:w'.output=w.output
 size:w.heap.size<=w'.heap.size
 block:∀ k,k<w.heap.size->k≠g->w'.heap[k]?=w.heap[k]?
theorem z3q.refl(g:Nat)(w:World):z3q g w w:=⟨rfl,rfl,rfl,Nat.le_refl _,fun _ _ _=>rfl⟩
theorem z3q.trans{g:Nat}{a b c:World}(h:z3q g a b)(k:z3q g b c):z3q g a c:=
 ⟨k.os.trans h.os,k.tape.trans h.tape,k.output.trans h.output,Nat.le_trans h.size k.size,fun i d e=>(k.block i (Nat.lt_of_lt_of_le d h.size) e).trans (h.block i d e)⟩
theorem z3q.of_below{g:Nat}{a b:World}(h:Bl a b):z3q g a b:=⟨h.os,h.tape,h.output,h.size,fun k c _=>h.block k c⟩
theorem z3q.set{g:Nat}{w w':World}(h:z3q g w w')(o:Nat)(v:Value):z3q g w (w'.setCell ⟨g,o,none⟩ v):=
 ⟨h.os,h.tape,h.output,(by simp[World.setCell];exact h.size),fun k b a=>(Below.heap_setCell _ _ _ _ a).trans (h.block k b a)⟩
theorem z3q.drew{g:Nat}{w w':World}(h:z3q g w w'):z3q g w w'.drew:=⟨h.os,h.tape,h.output,h.size,h.block⟩
theorem z3q.drewN{g:Nat}{w w':World}(h:z3q g w w')(n:Nat):z3q g w (w'.drewN n):=⟨h.os,h.tape,h.output,h.size,h.block⟩
theorem z3q.below{g B:Nat}{w w':World}(h:z3q g w w')(a:B<=g)(hs:B<=w.heap.size):Below B w w':=⟨h.os,h.tape,h.output,h.size,fun k b=>h.block k (by omega) (by omega)⟩
theorem z1W.later{w w':World}{g:Nat}{l:List Pw}(h:z1W w g l)(hb:Bl w w'):z1W w' g l:=by
 obtain⟨a,hc,b⟩:=h;exact⟨a,(hb.block g (Array.getElem?_eq_some_iff.1 hc).1).trans hc,b⟩
theorem z1W.cell{w:World}{g:Nat}{l:List Pw}(h:z1W w g l){i:Nat}(a:i<l.length):w.cell? ⟨g,i * 2,none⟩=some (J I (l.getD i pz).1)/\w.cell? ⟨g,i * 2+1,none⟩=some (J I (l.getD i pz).2):=by
 obtain⟨b,hc,c⟩:=h;have e:l[i]?=some (l.getD i pz):=by simp[List.getD,a]
 obtain⟨h1,h2⟩:=c i _ e;simp only[World.cell?,hc]
 simp[h1,h2]
theorem z1W.free{w:World}{g:Nat}{l:List Pw}(h:z1W w g l)(o:Nat):w.frozen? ⟨g,o,none⟩=false:=by
 obtain⟨a,hc,_⟩:=h
 simp[World.frozen?,hc]
theorem z1W.lt{w:World}{g:Nat}{l:List Pw}(h:z1W w g l):g<w.heap.size:=by
 obtain⟨a,hc,_⟩:=h;exact (Array.getElem?_eq_some_iff.1 hc).1
theorem z1W.put{w:World}{g:Nat}{l:List Pw}(h:z1W w g l){i:Nat}(c:i<l.length)(x:Pw):z1W ((w.setCell ⟨g,i * 2,none⟩ (J I x.1)).setCell ⟨g,i * 2+1,none⟩ (J I x.2)) g (l.set i x):=by
 have f:=h.cell c;obtain⟨a,hc,d⟩:=h
 have k:i * 2<a.size:=by
  have:=(d i _ (List.getElem?_eq_getElem c)).1;exact (Array.getElem?_eq_some_iff.1 this).1
 have m:i * 2+1<a.size:=by
  have:=(d i _ (List.getElem?_eq_getElem c)).2;exact (Array.getElem?_eq_some_iff.1 this).1
 refine⟨(a.setIfInBounds (i * 2) (J I x.1)).setIfInBounds (i * 2+1) (J I x.2),?_,fun j y b=>?_⟩
 ·simp[World.setCell,Array.getElem?_modify,hc]
 ·rw[List.getElem?_set]at b
  by_cases e:i=j
  ·subst e;rw[if_pos rfl,if_pos c]at b
   simp at b
   subst b
   simp[k,m]
  ·rw[if_neg e]at b;obtain⟨h1,h2⟩:=d j y b;simp only[Array.getElem?_setIfInBounds];rw[if_neg (by omega),if_neg (by omega),if_neg (by omega),if_neg (by omega)]
   exact⟨h1,h2⟩
end
end Go.Proofs.YtddlhnoedldidaaGreat
