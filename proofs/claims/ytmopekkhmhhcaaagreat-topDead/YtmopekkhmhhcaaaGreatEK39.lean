/- Parts of the proof. -/
import Derived.Test.YtmopekkhmhhcaaaGreatEL
import Derived.Test.YtmopekkhmhhcaaaGreatEK28
import Derived.Test.YtmopekkhmhhcaaaGreatEK34
import Derived.Deep.DeepCutAuto
import Derived.OneCell
import Derived.OwnWalk
import Derived.Deep.OwnRows
import Derived.WideShapes
import Derived.Deep.RegionHeld3
import Derived.Deep.RegionWith
set_option maxRecDepth 100000
set_option maxHeartbeats 16000000
namespace Go.Proofs.YtmopekkhmhhcaaaGreat
open Go.Proofs.Tryz
section
open Go.RowKit
def spl(cs:Array Value):Nat->List Value->Array Value
 | _,[]=>cs
 | o,v :: r=>spl (cs.setIfInBounds o v) (o+1) r
theorem q2v:∀ (vs:List Value) (cs:Array Value) (o i:Nat),o+vs.length<=cs.size->(spl cs o vs)[i]?=if o<=i/\i<o+vs.length then vs[i - o]? else cs[i]?
 | [],cs,o,i,_=>by simp[spl];intro h1 h2;omega
 | v :: r,cs,o,i,h=>by
  simp only[List.length_cons]at h;rw[spl,q2v r _ (o+1) i (by simp;omega)]
  by_cases e:i=o
  ·subst e;have:i<cs.size:=by omega
   simp[this]
   intro h1;omega
  ·by_cases h1:o+1<=i/\i<o+1+r.length
   ·rw[if_pos h1,if_pos ⟨by omega,by simp;omega⟩]
    obtain ⟨j,rfl⟩:∃ j,i=o+1+j:=⟨i - (o+1),by omega⟩
    rw[show o+1+j - (o+1)=j by omega,show o+1+j - o=j+1 by omega]
    simp
   ·rw[if_neg h1,if_neg (by simp;omega),Array.getElem?_setIfInBounds_ne (by omega)]
theorem q8j{cs ds:Array Value}(h:ds.size=cs.size):spl cs 0 ds.toList=ds:=by
 apply Array.ext_getElem?;intro i;rw[q2v _ _ _ _ (by simp;omega)]
 by_cases hi:i<ds.size
 ·rw[if_pos ⟨by omega,by simp;omega⟩];simp
 ·rw[if_neg (by simp;omega),Array.getElem?_eq_none (by omega),Array.getElem?_eq_none (by omega)]
theorem z0a{B b:Nat}{a:World}(hB:B<=b):∀ (vs:List Value) (o:Nat) (w:World),Below B a w->Below B a (w.setCells b o vs)
 | [],_,_,h=>h
 | v :: r,o,_,h=>z0a hB r (o+1) _ (h.setCell hB v)
theorem z1c{b k:Nat}(hk:k≠b):∀ (vs:List Value) (o:Nat) (w:World),(w.setCells b o vs).heap[k]?=w.heap[k]?
 | [],_,_=>rfl
 | _ :: r,o,_=>(z1c hk r (o+1) _).trans (Below.heap_setCell _ _ _ _ hk)
end
namespace Pv
open Go.RowKit
theorem hide{p:Prop}(h:p):Hid p:=h
def CAt(ty:TypeId)(w:World)(b:Nat)(cs:Array Value):Prop:=w.heap[b]?=some (.cells cs ty)
section
variable {ty:TypeId} {w w':World} {b B:Nat} {cs:Array Value}
theorem CAt.new(ty:TypeId)(w:World)(cs:Array Value):CAt ty (w.alloc (.cells cs ty)) w.heap.size cs:=heap_alloc_new _ _
theorem CAt.new2(ty:TypeId)(w:World)(o:Obj)(cs:Array Value):CAt ty ((w.alloc o).alloc (.cells cs ty)) (w.heap.size+1) cs:=by
 have h:=CAt.new ty (w.alloc o) cs
 rwa [show (w.alloc o).heap.size=w.heap.size+1 by simp]at h
theorem CAt.later(h:CAt ty w b cs)(hb:Below B w w')(hB:b<B):CAt ty w' b cs:=(hb.block b hB).trans h
theorem CAt.lt(h:CAt ty w b cs):b<w.heap.size:=(Array.getElem?_eq_some_iff.1 h).1
theorem CAt.over(h:CAt ty w b cs)(hb:Below w.heap.size w w'):CAt ty w' b cs:=h.later hb h.lt
theorem CAt.alloc(h:CAt ty w b cs)(o:Obj):CAt ty (w.alloc o) b cs:=(Below.heap_alloc _ _ _ h.lt).trans h
theorem CAt.keep(h:CAt ty w b cs)(hk:w'.heap[b]?=w.heap[b]?):CAt ty w' b cs:=hk.trans h
theorem CAt.other{c o:Nat}(h:CAt ty w b cs)(hb:b≠c)(v:Value):CAt ty (w.setCell ⟨c,o,none⟩ v) b cs:=(Below.heap_setCell _ _ _ _ hb).trans h
theorem CAt.others{c o:Nat}(h:CAt ty w b cs)(hb:b≠c)(vs:List Value):CAt ty (w.setCells c o vs) b cs:=(z1c hb _ _ _).trans h
theorem CAt.cell(h:CAt ty w b cs)(o:Nat):w.cell? ⟨b,o,none⟩=cs[o]?:=by
 unfold CAt at h
 simp[World.cell?,h]
theorem CAt.free(h:CAt ty w b cs)(o:Nat):w.frozen? ⟨b,o,none⟩=false:=by
 unfold CAt at h
 simp[World.frozen?,h]
theorem CAt.set(h:CAt ty w b cs)(o:Nat)(v:Value):CAt ty (w.setCell ⟨b,o,none⟩ v) b (cs.setIfInBounds o v):=by
 unfold CAt at *
 simp[World.setCell,Array.getElem?_modify,h]
theorem CAt.range(h:CAt ty w b cs):w.rangeAt b 0 cs.toList:=by
 intro j v hv;rw[Nat.zero_add,h.cell]
 simpa using hv
theorem CAt.part(h:CAt ty w b cs){o:Nat}{ds:List Value}(hd:∀ j v,ds[j]?=some v->cs[o+j]?=some v):w.rangeAt b o ds:=by
 intro j v hv;rw[h.cell];exact hd j v hv
theorem CAt.there(h:CAt ty w b cs)(o n:Nat)(hn:o+n<=cs.size):w.there b o n:=by
 intro j hj;rw[h.cell,h.free];have:o+j<cs.size:=by omega
 simp[this]
theorem CAt.sets:∀ (vs:List Value) (o:Nat) (w:World) (cs:Array Value),CAt ty w b cs->CAt ty (w.setCells b o vs) b (spl cs o vs)
 | [],_,_,_,h=>h
 | v :: r,o,_,_,h=>CAt.sets r (o+1) _ _ (h.set o v)
theorem CAt.z0s{ds:Array Value}(h:CAt ty w b cs)(hd:ds.size=cs.size):CAt ty (w.setCells b 0 ds.toList) b ds:=by
 have:=CAt.sets ds.toList 0 w cs h
 rwa [q8j hd]at this
end
def Rep(P:Nat->Prop)(w:World)(v:Value)(sz bts:Nat)(cs:List Value):Prop:=
 ∃ (A:Option Addr) (n C:Nat),v=.slice A n C/\cs.length=n * sz/\n * bts<=140737488351232/\((A=none->C=0)/\n<=C) /\
  (0<n->∃ b off,A=some ⟨b,off,none⟩/\P b/\b<w.heap.size/\∀ j u,cs[j]?=some u->w.cell? ⟨b,off+j,none⟩=some u)
section
variable {P P':Nat->Prop} {w w':World} {v:Value} {sz bts:Nat} {cs:List Value}
theorem Rep.nil(P:Nat->Prop)(w:World)(sz bts:Nat):Rep P w (.slice none 0 0) sz bts []:=⟨none,0,0,rfl,by simp,by simp,⟨fun _=>rfl,Nat.le_refl _⟩,fun h=>absurd h (by omega)⟩
theorem Rep.mono(h:Rep P w v sz bts cs)(hp:∀ b,b<w.heap.size->P b->P' b):Rep P' w v sz bts cs:=by
 obtain ⟨A,n,C,h1,h2,h3,h4,h5⟩:=h;refine ⟨A,n,C,h1,h2,h3,h4,fun h0=>?_⟩;obtain ⟨b,off,a1,a2,a3,a4⟩:=h5 h0;exact ⟨b,off,a1,hp b a3 a2,a3,a4⟩
theorem Rep.keep(h:Rep P w v sz bts cs)(hk:∀ b,P b->b<w.heap.size->w'.heap[b]?=w.heap[b]?):Rep P w' v sz bts cs:=by
 obtain ⟨A,n,C,h1,h2,h3,h4,h5⟩:=h;refine ⟨A,n,C,h1,h2,h3,h4,fun h0=>?_⟩;obtain ⟨b,off,a1,a2,a3,a4⟩:=h5 h0
 have hlt:b<w'.heap.size:=by
  have e:=hk b a2 a3;rw[Array.getElem?_eq_getElem a3]at e;exact (Array.getElem?_eq_some_iff.1 e).1
 refine ⟨b,off,a1,a2,hlt,fun j u hu=>?_⟩;rw[← a4 j u hu];exact World.cell?_of_block (w:=w) (a:=⟨b,off+j,none⟩) (hk b a2 a3)
theorem Rep.over(h:Rep P w v sz bts cs)(hb:Below w.heap.size w w'):Rep P w' v sz bts cs:=h.keep fun b _ hlt=>hb.block b hlt
theorem Rep.open(h:Rep P w v sz bts cs){n:Nat}(hn:cs.length=n * sz)(hz:0<sz):∃ (A:Option Addr) (C:Nat),v=.slice A n C/\n * bts<=140737488351232/\(A=none->n=0/\C=0)/\(0<n->∃ b off,A=some ⟨b,off,none⟩/\P b/\b<w.heap.size/\∀ j u,cs[j]?=some u->w.cell? ⟨b,off+j,none⟩=some u)/\(∀ ad,A=some ad->∀ j u,cs[j]?=some u->w.cell? (ad.add j)=some u):=by
 obtain ⟨A,m,C,h1,h2,h3,h4,h5⟩:=h;have e:m=n:=Nat.eq_of_mul_eq_mul_right hz (h2.symm.trans hn);subst e;refine ⟨A,C,h1,h3,fun e=>⟨?_,h4.1 e⟩,h5,fun ad e j u hu=>?_⟩
 ·rcases Nat.eq_zero_or_pos m with h0 | h0
  ·exact h0
  ·obtain ⟨b,off,a1,_⟩:=h5 h0;rw[a1]at e;cases e
 ·rcases Nat.eq_zero_or_pos m with h0 | h0
  ·subst h0;have:=(List.getElem?_eq_some_iff.1 hu).1;omega
  ·obtain ⟨b,off,a1,_,_,a4⟩:=h5 h0;rw[a1]at e;cases e;rw[Addr.add_lit];exact a4 j u hu
theorem Rep.room(h:Rep P w v sz bts cs){A:Option Addr}{n C:Nat}(hv:v=.slice A n C):n<=C/\(A=none->C=0):=by
 obtain ⟨A',n',C',h1,_,_,h4,_⟩:=h;rw[hv]at h1;cases h1;exact ⟨h4.2,h4.1⟩
theorem Rep.own{base n:Nat}{e:TypeId}(h:w.ownsRow base e sz v n cs)(hb:n * bts<=140737488351232):Rep (fun b=>base<=b) w v sz bts cs:=by
 rcases h.2 with ⟨hv,hn⟩ | ⟨g,cap,cur,hv,h1,h2,h3,_⟩
 ·exact ⟨none,0,0,hv,by rw[h.1,hn],by omega,⟨fun _=>rfl,Nat.le_refl _⟩,fun h=>absurd h (by omega)⟩
 ·subst hv;refine ⟨_,n,cap,rfl,h.1,hb,⟨fun h=>(by cases h),h3⟩,fun _=>⟨g,0,rfl,h1,(Array.getElem?_eq_some_iff.1 h2).1,fun j u hu=>?_⟩⟩
  have:=World.ownsRow.cells h (g:=g) rfl j u hu
  rwa [Addr.add_lit]at this
end
def pwC(l:List (Int×Int)):List Value:=l.flatMap fun x=>[.int .i64 x.1,.int .i64 x.2]
def inC(l:List Int):List Value:=l.map (.int .i64)
def txC(l:List ByteArray):List Value:=l.map .string
theorem z0c:∀ l:List (Int×Int),(pwC l).length=l.length * 2
 | []=>rfl
 | x :: l=>by show (_ ++ pwC l).length=_;rw[List.length_append,z0c l,List.length_cons];simp;omega
theorem z0p(l:List Int):(inC l).length=l.length * 1:=by simp[inC]
theorem z1L(l:List ByteArray):(txC l).length=l.length * 1:=by simp[txC]
theorem z1P:∀ (l:List (Int×Int)) (i:Nat),i<l.length->(pwC l)[i * 2]?=some (.int .i64 (l.getD i (0,0)).1)/\(pwC l)[i * 2+1]?=some (.int .i64 (l.getD i (0,0)).2)
 | [],i,h=>absurd h (by simp)
 | x :: l,0,_=>⟨rfl,rfl⟩
 | x :: l,i+1,h=>by
  have:=z1P l i (by simpa using h)
  rw[show (i+1) * 2=i * 2+2 by omega]
  exact this
theorem z3J(l:List Int)(i:Nat)(h:i<l.length):(inC l)[i]?=some (.int .i64 (l.getD i 0)):=by simp[inC,List.getD,h]
theorem z7D(l:List ByteArray)(i:Nat)(h:i<l.length):(txC l)[i]?=some (.string (l.getD i ByteArray.empty)):=by simp[txC,List.getD,h]
theorem z6k(l:List (Int×Int)):∀ u∈pwC l,u.oneCell'=true:=fun u hu=>by
 simp only[pwC,List.mem_flatMap,List.mem_cons,List.not_mem_nil,or_false]at hu;obtain ⟨x,_,rfl | rfl⟩:=hu <;> rfl
structure Pkt where
 k:Int
 i:Int
 v:Int
 n:Int
 S:List (Int×Int)
 D:List Int
def j0p:List Nat->Code->Code
 | [],c=>c
 | 0 :: p,.seq a _=>j0p p a
 | 1 :: p,.seq _ b=>j0p p b
 | _ :: p,.block _ c=>j0p p c
 | _ :: p,.loop c=>j0p p c
 | 1 :: p,.cond _ a _=>j0p p a
 | 2 :: p,.cond _ _ b=>j0p p b
 | _,_=>.skip
end Pv
namespace Ln
open Go.RowKit
structure Line where
 S:List ByteArray
 D:List Int
 g:Int
 cl:Bool
def z0Y(w:World)(b off:Nat)(l:List Int):Prop:=∀ i,i<l.length->w.cell? ⟨b,off+i,none⟩=some (.int .i64 (l.getD i 0))
def z3c(w:World)(b off:Nat)(l:List ByteArray):Prop:=∀ i,i<l.length->w.cell? ⟨b,off+i,none⟩=some (.string (l.getD i ByteArray.empty))
theorem z0Y.z3Z{B:Nat}{w w':World}{b off:Nat}{l:List Int}(h:z0Y w b off l)(hb:Below B w w')(hB:0<l.length->b<B):z0Y w' b off l:=fun i hi =>
 (hb.cell (p:=⟨b,off+i,none⟩) (hB (by omega))).trans (h i hi)
theorem z3c.z3Z{B:Nat}{w w':World}{b off:Nat}{l:List ByteArray}(h:z3c w b off l)(hb:Below B w w')(hB:0<l.length->b<B):z3c w' b off l:=fun i hi =>
 (hb.cell (p:=⟨b,off+i,none⟩) (hB (by omega))).trans (h i hi)
theorem z0Y.later{w w':World}{b off:Nat}{l:List Int}(h:z0Y w b off l)(hb:Below w.heap.size w w'):z0Y w' b off l:=fun i hi =>
 (hb.cell (p:=⟨b,off+i,none⟩) (World.block_lt_of_cell? w _ (h i hi))).trans (h i hi)
theorem z3c.later{w w':World}{b off:Nat}{l:List ByteArray}(h:z3c w b off l)(hb:Below w.heap.size w w'):z3c w' b off l:=fun i hi =>
 (hb.cell (p:=⟨b,off+i,none⟩) (World.block_lt_of_cell? w _ (h i hi))).trans (h i hi)
structure LAt(w:World)(x:Line)(sa da:Option Addr)(cs cd sb so db dO:Nat):Prop where
 hls:x.S.length * 16<=140737488351232
 hld:x.D.length * 8<=140737488351232
 hsa:0<x.S.length->sa=some ⟨sb,so,none⟩
 hda:0<x.D.length->da=some ⟨db,dO,none⟩
 ncs:sa=none->cs=0
 ncd:da=none->cd=0
 PS:z3c w sb so x.S
 PD:z0Y w db dO x.D
theorem LAt.later{w w':World}{x:Line}{sa da:Option Addr}{cs cd sb so db dO:Nat}(h:LAt w x sa da cs cd sb so db dO)(hb:Below w.heap.size w w'):LAt w' x sa da cs cd sb so db dO:=
 ⟨h.hls,h.hld,h.hsa,h.hda,h.ncs,h.ncd,h.PS.later hb,h.PD.later hb⟩
theorem LAt.ltS{w:World}{x:Line}{sa da:Option Addr}{cs cd sb so db dO:Nat}(h:LAt w x sa da cs cd sb so db dO)(h0:0<x.S.length):sb<w.heap.size:=World.block_lt_of_cell? w _ (h.PS 0 h0)
theorem LAt.ltD{w:World}{x:Line}{sa da:Option Addr}{cs cd sb so db dO:Nat}(h:LAt w x sa da cs cd sb so db dO)(h0:0<x.D.length):db<w.heap.size:=World.block_lt_of_cell? w _ (h.PD 0 h0)
theorem LAt.z3Z{B:Nat}{w w':World}{x:Line}{sa da:Option Addr}{cs cd sb so db dO:Nat}(h:LAt w x sa da cs cd sb so db dO)(hb:Below B w w')(hS:0<x.S.length->sb<B)(hD:0<x.D.length->db<B):LAt w' x sa da cs cd sb so db dO:=
 ⟨h.hls,h.hld,h.hsa,h.hda,h.ncs,h.ncd,h.PS.z3Z hb hS,h.PD.z3Z hb hD⟩
theorem hide{p:Prop}(h:p):Hid p:=h
theorem z0u(w:World)(o:Obj):Below w.heap.size w (w.alloc o):=znw _ o
theorem z2w{w w':World}{o:Obj}(h:Below (w.alloc o).heap.size (w.alloc o) w'):Below w.heap.size w w':=
 (z0u w o).trans (h.mono (by simp))
theorem z1K{w w1 w2:World}(h:Below w.heap.size w w1)(k:Below w1.heap.size w1 w2):Below w.heap.size w w2:=zbt h k
theorem q4g{W w1:World}(hb:Below W.heap.size W w1):(∀ b o,b<W.heap.size->w1.cell? ⟨b,o,none⟩=W.cell? ⟨b,o,none⟩)/\(∀ b o,b<W.heap.size->w1.frozen? ⟨b,o,none⟩=W.frozen? ⟨b,o,none⟩):=
 ⟨fun b o h=>hb.cell (p:=⟨b,o,none⟩) h,fun b o h=>hb.frozen (p:=⟨b,o,none⟩) h⟩
theorem j7D{a b:ByteArray}(h:a≠b):(a.toList == b.toList)=false:=by
 rw[ByteArray.toList_eq,ByteArray.toList_eq]
 simpa using fun h2:a.data.toList=b.data.toList=>h (WideShapes.bytes_inj h2)
def nonneg(l:List Int):Bool:=l.all fun d=>decide (0<=d)
theorem q2e{l:List Int}{k:Nat}(h:nonneg (l.take k)=true)(hl:k<l.length)(hd:0<=l.getD k 0):nonneg (l.take (k+1))=true:=by
 rw[List.take_succ_eq_append_getElem hl]
 simp[List.getD,hl]at hd
 unfold nonneg at *;rw[List.all_append,h]
 simp[hd]
theorem q4J{l:List Int}{k:Nat}(hl:k<l.length)(hd:l.getD k 0<0):nonneg l=false:=by
 simp[List.getD,hl]at hd
 simp only[nonneg,List.all_eq_false,decide_eq_true_eq];exact ⟨l[k],List.getElem_mem hl,by omega⟩
def z0T(x:Line):Bool:=decide (x.D.length=x.S.length) && decide (x.S.length<=400) && nonneg x.D && decide (0<=x.g) && decide (x.g<=x.S.length)
def z3Y(x:Line):Int:=if z0T x=false then 2 else if x.cl=true then 11 else 0
def z6x(x:Line)(due:Int):Int:=if due<0 then 2 else if z3Y x≠0 then z3Y x else if 400<=x.S.length then 6 else 0
def z5b(x:Line)(s:ByteArray)(due:Int):Line:=if z6x x due=0 then ⟨x.S ++ [s],x.D ++ [due],x.g,x.cl⟩ else x
def z4a(x:Line)(k:Int)(s:ByteArray)(said now:Int):Int:=
 if z3Y x≠0 then z3Y x else if k≠x.g+1 then 10 else if said<k∨(x.S.length:Int)<k∨x.S.getD (k - 1).toNat ByteArray.empty≠s then 9
 else if x.D.getD (k - 1).toNat 0<=now then 12 else 0
def z7o(x:Line)(k:Int)(s:ByteArray)(said now:Int):Line:=if z4a x k s said now=0 then ⟨x.S,x.D,k,x.cl⟩ else x
def z5l(x:Line)(k time got:Int):Int:=
 if z3Y x≠0 then z3Y x else if k<1∨(x.S.length:Int)<k then 4 else if k<=got then 5 else if time<x.D.getD (k - 1).toNat 0 then 13 else 0
def z9n(x:Line)(k time got:Int):Line:=if z5l x k time got=0 then ⟨x.S,x.D,x.g,true⟩ else x
theorem z7S{x:Line}(h:z0T x=true):x.D.length=x.S.length/\x.S.length<=400/\0<=x.g/\x.g<=x.S.length:=by
 simp[z0T]at h
 omega
theorem z7b{x:Line}(h:z3Y x=0):z0T x=true/\x.cl=false:=by
 unfold z3Y at h
 split at h
 ·omega
 split at h
 ·omega
 exact ⟨by simpa using ‹¬ z0T x=false›,by simpa using ‹¬ x.cl=true›⟩
theorem q1W(x:Line) :
  (x.D.length≠x.S.length/\z0T x=false)∨(x.D.length=x.S.length/\400<x.S.length/\z0T x=false) ∨
  (x.D.length=x.S.length/\x.S.length<=400/\(nonneg x.D=false->z0T x=false)/\(nonneg x.D=true->z0T x=(decide (0<=x.g) && decide (x.g<=x.S.length)))):=by
 by_cases h1:x.D.length=x.S.length
 ·right
  by_cases h2:x.S.length<=400
  ·right
   exact ⟨h1,h2,fun h3=>by simp[z0T,h3],fun h3=>by simp[z0T,h1,h2,h3]⟩
  ·left
   exact ⟨h1,by omega,by simp[z0T,h2]⟩
 ·left
  exact ⟨h1,by simp[z0T,h1]⟩
theorem z0o(x:Line)(sa da:Option Addr)(cs cd sb so db dO:Nat)(w:World)(L:LAt w x sa da cs cd sb so db dO) :
  Calls prog 145 #[.agg #[.slice sa x.S.length cs,.slice da x.D.length cd,.int .i64 x.g,.bool x.cl]] w fun e w'=>e=.returned (.bool (z0T x))/\Below w.heap.size w w':=by
 obtain ⟨S,D,g,cl⟩:=x;have hcs:=q1W ⟨S,D,g,cl⟩;obtain ⟨hls,hld,hsa,hda,-,-,PS,PD⟩:=L;have HB0:Hid (∀ o,Below w.heap.size w (w.alloc o)):=fun o=>z0u w o;have HDA:Hid (0<D.length->da=some ⟨db,dO,none⟩):=hda;have HPD:Hid (z0Y w db dO D):=PD;clear hsa hda PS PD;dsimp only at *;generalize z0T ⟨S,D,g,cl⟩=G at *
 rcases hcs with ⟨h1,rfl⟩ | ⟨h1,h2,rfl⟩ | ⟨h1,h2,h3,h4⟩
 ·have hne:((D.length:Int) != (S.length:Int))=true:=by simp;omega
  clear h1
  go_enter func145,ntmps145
  go_wp2;go_ret;exact ⟨rfl,HB0.out _⟩
 ·have hne:((D.length:Int) != (S.length:Int))=false:=by simp;omega
  clear h1
  go_enter func145,ntmps145
  go_wp2;go_ret;exact ⟨rfl,HB0.out _⟩
 ·have hne:((D.length:Int) != (S.length:Int))=false:=by simp;omega
  have hd2:D.length<=400:=by omega
  have HG:Hid ((nonneg D=false->G=false)/\(nonneg D=true->G=(decide (0<=g) && decide (g<=S.length)))):=⟨h3,h4⟩;clear h1 h3 h4
  go_enter func145,ntmps145
  go_wp2
  go_loop [21] (fun i=>∃ (k:Nat),k<=D.length/\i=.int .i64 (k:Int)/\Hid (nonneg (D.take k)=true)) (fun i=>D.length - (intOf i).toNat)
  case atStart=>exact ⟨0,Nat.zero_le _,rfl,by simp[Hid,nonneg]⟩
  case round =>
   obtain ⟨k,hk,rfl,HR⟩:=hrel
   by_cases hlt:k<D.length
   ·have hcell:=(HPD.out.later (HB0.out (.cells #[.slice sa S.length cs,.slice da D.length cd,.int .i64 g,.bool cl] 47))) k hlt;obtain ⟨y,hy⟩:∃ y,D.getD k 0=y:=⟨_,rfl⟩;rw[hy]at hcell;have HY:Hid (D.getD k 0=y):=hy;clear hy;have e:=HDA.out (by omega)
    subst e
    by_cases hy0:y<0
    ·go_wp2;go_ret;exact ⟨by rw[HG.out.1 (q4J hlt (by rw[HY.out];exact hy0))];rfl,HB0.out _⟩
    ·go_wp2
     go_round
     case rel=>exact ⟨k+1,by omega,by go_num,q2e HR.out hlt (by rw[HY.out];omega)⟩
     case measure=>simp[intOf];omega
   ·have hG:=HG.out.2 (by have:=HR.out;rwa [List.take_of_length_le (by omega)]at this)
    by_cases hg0:0<=g
    ·by_cases hg1:g<=(S.length:Int)
     ·have HF:Hid (G=true):=by show _=_;rw[hG];simp[hg0,hg1]
      clear hG;go_wp2;go_ret;exact ⟨by rw[HF.out];rfl,HB0.out _⟩
     ·have HF:Hid (G=false):=by show _=_;rw[hG];simp[hg1]
      clear hG;go_wp2;go_ret;exact ⟨by rw[HF.out];rfl,HB0.out _⟩
    ·have HF:Hid (G=false):=by show _=_;rw[hG];simp[hg0]
     clear hG;go_wp2;go_ret;exact ⟨by rw[HF.out];rfl,HB0.out _⟩
theorem q2r(x:Line)(sa da:Option Addr)(cs cd sb so db dO:Nat)(w:World)(L:LAt w x sa da cs cd sb so db dO) :
  Calls prog 129 #[.agg #[.slice sa x.S.length cs,.slice da x.D.length cd,.int .i64 x.g,.bool x.cl]] w fun e w'=>e=.returned (.int .i64 (z3Y x))/\Below w.heap.size w w':=by
 have hg:=z0o x sa da cs cd sb so db dO _ (L.later (z0u w (.cells #[.slice sa x.S.length cs,.slice da x.D.length cd,.int .i64 x.g,.bool x.cl] 47)));clear L;obtain ⟨S,D,g,cl⟩:=x;unfold z3Y;dsimp only at *;generalize z0T ⟨S,D,g,cl⟩=G at *;cases G <;> cases cl
 all_goals go_enter func129,ntmps129
 all_goals go_wp2_with (go_at_call 145;refine hg.mono ?_;rintro e w1 ⟨rfl,hb⟩;obtain ⟨hc,hf⟩:=q4g hb;have HB1:Hid (Below w.heap.size w w1):=z2w hb;clear hb)
 all_goals go_ret
 all_goals exact ⟨rfl,HB1.out⟩
theorem q8Q(x:Line)(sa da:Option Addr)(cs cd:Nat)(k:Int)(w:World) :
  Calls prog 130 #[.agg #[.slice sa x.S.length cs,.slice da x.D.length cd,.int .i64 x.g,.bool x.cl],.int .i64 k] w fun e w'=>e=.returned (.bool (decide (1<=k) && decide (k<=x.S.length)))/\Below w.heap.size w w':=by
 obtain ⟨S,D,g,cl⟩:=x;dsimp only at *
 by_cases h1:1<=k
 ·by_cases h2:k<=(S.length:Int)
  ·rw[show (decide (1<=k) && decide (k<=(S.length:Int)))=true by simp[h1,h2]]
   go_enter func130,ntmps130
   go_wp2;go_ret;exact ⟨rfl,z0u _ _⟩
  ·rw[show (decide (1<=k) && decide (k<=(S.length:Int)))=false by simp[h2]]
   go_enter func130,ntmps130
   go_wp2;go_ret;exact ⟨rfl,z0u _ _⟩
 ·rw[show (decide (1<=k) && decide (k<=(S.length:Int)))=false by simp[h1]]
  go_enter func130,ntmps130
  go_wp2;go_ret;exact ⟨rfl,z0u _ _⟩
end Ln
namespace Cd
open Go.RowKit
theorem info5:(prog.info? 5).map (fun i=>(i.zero,i.size,i.bytes))=some (some (.int .u8 0),1,1):=by kernel_rfl
def be(n:Int):Nat->List Int
 | 0=>[]
 | m+1=>(n / 2 ^ (8 * m)) % 256 :: be n m
theorem z1E(n:Int)(m:Nat):(be n m).length=m:=by
 induction m with
 | zero=>rfl
 | succ m ih=>simp[be,ih]
def Row(w:World)(B:Nat)(v:Value)(xs:List Int):Prop:=w.ownsRow B 5 1 v xs.length (xs.map (Value.int .u8))
def At(w:World)(v v':Value):Prop:=v'.ownBlock=v.ownBlock∨∃ k,v'.ownBlock=some k/\w.heap.size<=k
theorem q1Z{w w1 w2:World}{v v1:Value}(h:w.grownBy w1 v.ownBlock)(ha:At w v v1)(k:w1.grownBy w2 v1.ownBlock):w.grownBy w2 v.ownBlock:=by
 refine ⟨k.os.trans h.os,k.tape.trans h.tape,k.output.trans h.output,Nat.le_trans h.size k.size,fun i hi hne=>?_⟩;rw[k.block i (Nat.lt_of_lt_of_le hi h.size) ?_,h.block i hi hne]
 rcases ha with e | ⟨j,e,hj⟩
 ·rw[e];exact hne
 ·rw[e];intro h;cases h;omega
theorem q5s(w:World)(r:Option Nat):w.grownBy w r:=⟨rfl,rfl,rfl,Nat.le_refl _,fun _ _ _=>rfl⟩
theorem At.trans{w w1:World}{v v1 v2:Value}(hs:w.heap.size<=w1.heap.size)(h:At w v v1)(k:At w1 v1 v2):At w v v2:=by
 rcases k with e | ⟨j,e,hj⟩
 ·rcases h with e1 | ⟨j,e1,hj⟩
  ·exact .inl (e.trans e1)
  ·exact .inr ⟨j,e.trans e1,hj⟩
 ·exact .inr ⟨j,e,Nat.le_trans hs hj⟩
theorem q1A{w w2:World}{o:Obj}{r:Option Nat}(k:(w.alloc o).grownBy w2 r):w.grownBy w2 r:=
 ⟨k.os,k.tape,k.output,Nat.le_trans (by simp) k.size,fun i hi hne=>(k.block i (by simp;omega) hne).trans (Below.heap_alloc _ _ _ hi)⟩
theorem z7r(B:Nat)(v:Value)(xs:List Int)(n:Int)(wd:Nat)(w:World)(hown:Row w B v xs)(hwd:wd<=7)(hlen:xs.length+wd<=1000000)(hB:B<=w.heap.size) :
  Calls prog 162 #[v,.int .i64 n,.int .i64 wd] w fun e w'=>∃ v',e=.returned v'/\Row w' B v' (xs ++ be n wd)/\w.grownBy w' v.ownBlock/\At w v v':=by
 obtain ⟨i0,hi,hz0,hz1,hz2⟩:=info_parts info5
 go_enter func162,ntmps162
 go_wp2
 go_loopw [0,7] (fun u i wl=>∃ (m:Nat) (ys:List Int),m<=wd/\i=.int .i64 ((m:Int) - 1)/\Hid (ys ++ be n m=xs ++ be n wd)/\Row wl B u ys/\Hid (w.grownBy wl v.ownBlock/\At w v u)) (fun _ i _=>(intOf i+1).toNat)
 case atStart=>exact ⟨wd,xs,Nat.le_refl _,rfl,rfl,hown,q5s _ _,.inl rfl⟩
 case round =>
  obtain ⟨m,ys,hm,rfl,HE,hown2,HB⟩:=hrel;clear hown
  match m,HE with
  | 0,HE =>
   go_wp2;go_ret;have hE:=HE.out;simp only[be,List.append_nil]at hE;subst hE;exact ⟨_,rfl,hown2,HB.out.1,HB.out.2⟩
  | m+1,HE =>
   have hl:ys.length<=1000000:=by
    have h1:=congrArg List.length HE.out;simp only[List.length_append,z1E]at h1;omega
   have hsz:B<=wr.heap.size:=Nat.le_trans hB HB.out.1.size
   go_wp2_with (at_builtin;refine wpList_append_own_at _ rfl _ _ 232 rfl B 5 i0 (.int .u8 0) 1 1 underlying232 hi hz0 hz1 hz2 rfl (by decide) _ _ _ rfl (World.ownsRow.alloc hown2 _) ⟨wr.heap.size,0,none⟩ 1 1 [.int .u8 (n / 2 ^ (8 * m) % 256)] rfl rfl (cell_one_new _ _ _) (by intro u hu;simp at hu;subst hu;rfl) (by unfold maxLen;omega) (by omega) (by simp;omega) ?_;intro v' w1 hown' hgrow _ hat)
   have HO:Hid (Row w1 B v' (ys ++ [n / 2 ^ (8 * m) % 256])):=by simpa [Hid,Row] using hown'
   have HB1:Hid (w.grownBy w1 v.ownBlock/\At w v v'):=by
    refine ⟨q1Z HB.out.1 HB.out.2 (q1A hgrow),HB.out.2.trans HB.out.1.size ?_⟩
    rcases hat with h | h
    ·exact .inl h
    ·exact .inr ⟨_,h,by simp⟩
   clear hown' hgrow hown2 hat;go_wp2;go_roundw
   case rel=>exact ⟨m,_,by omega,by go_num,by show _=_;rw[← HE.out];simp[be],HO.out,HB1⟩
   case measure=>simp[intOf]
end Cd
section
def z1t(f0 f1 f2 f3 bo wa bu:Int):Bool:=decide ((0<=f0/\f0<=400000)/\(0<=f1/\f1<=400000)/\(0<=f2/\f2<=400000)/\(0<=f3/\f3<=400000)/\(0<=bo/\bo<=400000)/\(0<=wa/\wa<=400000)/\(0<=bu/\bu<=400000)/\f0+f1+f2+f3+bo+wa+bu=400000)
structure Bk where
 f0:Int
 f1:Int
 f2:Int
 f3:Int
 bo:Int
 wa:Int
 bu:Int
def Bk.good(b:Bk):Bool:=z1t b.f0 b.f1 b.f2 b.f3 b.bo b.wa b.bu
def Bk.get(b:Bk):Nat->Int
 | 0=>b.f0
 | 1=>b.f1
 | 2=>b.f2
 | 3=>b.f3
 | 4=>b.bo
 | 5=>b.wa
 | _=>b.bu
def Bk.put(b:Bk)(k:Nat)(x:Int):Bk:=
 match k with
 | 0=>{ b with f0:=x }
 | 1=>{ b with f1:=x }
 | 2=>{ b with f2:=x }
 | 3=>{ b with f3:=x }
 | 4=>{ b with bo:=x }
 | 5=>{ b with wa:=x }
 | _=>{ b with bu:=x }
def mv(b:Bk)(f t:Nat)(n:Int):Bk×Int:=
 if b.good=false∨¬ (0<=n/\n<=1125899906842624) then (b,2) else if b.get f<n then (b,7) else ((b.put f (b.get f - n)).put t (b.get t+n),0)
def z2j(b:Bk)(d n:Int):Bk×Int:=if 0<=d/\d<4 then mv b d.toNat 4 n else (b,4)
def z0U(b:Bk)(n:Int):Bk×Int:=mv b 4 5 n
def z8p(b:Bk)(d n:Int):Bk×Int:=if 0<=d/\d<4 then mv b 5 d.toNat n else (b,4)
def z2v(b:Bk)(x y:Int):Bk×Int:=
 if (mv b 4 6 x).2=0 then if (mv (mv b 4 6 x).1 5 6 y).2=0 then ((mv (mv b 4 6 x).1 5 6 y).1,0) else (b,(mv (mv b 4 6 x).1 5 6 y).2) else (b,(mv b 4 6 x).2)
end
section
structure Vd where
 tok:Int
 sh:Int
 lost:Int
 jail:Bool
 dead:Bool
structure Wt where
 num:Int
 d:Int
 v:Int
 amt:Int
 hei:Int
 due:Int
 h0:Int
 h1:Int
structure St where
 b:Bk
 V:Nat->Vd
 S:Nat->Nat->Int
 W:List Wt
 next:Int
def inA(n:Int):Bool:=decide (0<=n/\n<=1125899906842624)
def isV(v:Int):Bool:=decide (0<=v/\v<6)
def isD(d:Int):Bool:=decide (0<=d/\d<4)
def vOk(x:Vd):Bool:=inA x.tok && inA x.sh && inA x.lost && !(decide (0<x.tok) && decide (x.sh=0)) && (x.jail || !x.dead)
def psh(S:Nat->Nat->Int)(v:Nat):Nat->Int
 | 0=>0
 | j+1=>psh S v j+S j v
def z2Z(S:Nat->Nat->Int)(v:Nat):Nat->Bool
 | 0=>true
 | j+1=>z2Z S v j && inA (S j v)
def q5o(S:Nat->Nat->Int)(v:Nat)(sh:Int):Bool:=z2Z S v 4 && decide (psh S v 4=sh)
def q0g(last next:Int)(w:Wt):Bool:=decide (last<w.num) && decide (w.num<next) && isD w.d && isV w.v && inA w.amt && decide (0<=w.hei) && decide (0<=w.due)
def wOk(next:Int):Int->List Wt->Bool
 | _,[]=>true
 | last,w :: r=>q0g last next w && wOk next w.num r
def z2q:List Wt->Int
 | []=>0
 | w :: r=>w.amt+z2q r
def z8m(V:Nat->Vd):Nat->Int
 | 0=>0
 | k+1=>z8m V k+(V k).tok
def z3l(V:Nat->Vd):Nat->Int
 | 0=>0
 | k+1=>z3l V k+(V k).lost
def j3f(s:St)(v:Nat):Bool:=vOk (s.V v) && q5o s.S v (s.V v).sh
def pvs(s:St):Nat->Bool
 | 0=>true
 | k+1=>pvs s k && j3f s k
def bal(s:St):Bool:=decide (z8m s.V 6=s.b.bo) && decide (z2q s.W=s.b.wa) && decide (z3l s.V 6=s.b.bu)
def z0k(s:St):Bool:=s.b.good && decide (1<=s.next) && decide (s.next<=1125899906842624) && decide (s.W.length<=60) && wOk s.next 0 s.W && pvs s 6 && bal s
def z6n(s:St)(v:Int):Int:=if z0k s=true then if isV v=true then 0 else 4 else 2
def z0S(s:St)(d v:Int):Int:=if z6n s v=0 then if isD d=true then 0 else 4 else z6n s v
def mdN(a b c:Int):Int:=if a<0∨b<0∨c<1 then 0 else if a * b / c<=1125899906842624 then a * b / c else 0
def mdE(a b c:Int):Int:=if a<0∨b<0∨c<1 then 2 else if a * b / c<=1125899906842624 then 0 else 2
def shN(x:Vd)(n:Int):Int:=if x.sh=0 then n else if x.tok=0 then 0 else if mdE n x.sh x.tok=0/\inA (x.sh+mdN n x.sh x.tok)=true then mdN n x.sh x.tok else 0
def shE(x:Vd)(n:Int):Int:=if x.sh=0 then 0 else if x.tok=0 then 8 else if mdE n x.sh x.tok=0/\inA (x.sh+mdN n x.sh x.tok)=true then if mdN n x.sh x.tok=0 then 8 else 0 else 6
def woN(x:Vd)(n:Int):Int:=if mdE n x.tok x.sh=0 then mdN n x.tok x.sh else 0
def woE(x:Vd)(n:Int):Int:=if mdE n x.tok x.sh=0 then if mdN n x.tok x.sh=0 then 8 else 0 else mdE n x.tok x.sh
def z1J(V:Nat->Vd)(v:Nat)(x:Vd):Nat->Vd:=fun i=>if i=v then x else V i
def z6v(S:Nat->Nat->Int)(d v:Nat)(n:Int):Nat->Nat->Int:=fun i j=>if i=d/\j=v then n else S i j
def q3x(s:St)(d v:Nat)(t n:Int):St:={ s with V:=z1J s.V v { s.V v with tok:=(s.V v).tok+t,sh:=(s.V v).sh+n },S:=z6v s.S d v (s.S d v+n) }
theorem z0B{n:Int}:inA n=true↔0<=n/\n<=1125899906842624:=decide_eq_true_iff
theorem z2N{n:Int}:isV n=true↔0<=n/\n<6:=decide_eq_true_iff
theorem z4T{n:Int}:isD n=true↔0<=n/\n<4:=decide_eq_true_iff
end
section
open Go.RowKit
theorem hide{p:Prop}(h:p):Hid p:=h
theorem z7s(d:Int)(w:World):Calls prog 48 #[.int .i64 d] w fun e w'=>e=.returned (.bool (isV d))/\w=w':=by
 unfold isV
 by_cases h0:0<=d
 ·by_cases h1:d<6
  ·rw[decide_eq_true ⟨h0,h1⟩]
   go_enter func48,ntmps48
   go_wp2;go_ret;exact ⟨rfl,rfl⟩
  ·rw[decide_eq_false (by omega)]
   go_enter func48,ntmps48
   go_wp2;go_ret;exact ⟨rfl,rfl⟩
 ·rw[decide_eq_false (by omega)]
  go_enter func48,ntmps48
  go_wp2;go_ret;exact ⟨rfl,rfl⟩
theorem z8s(d:Int)(w:World):Calls prog 146 #[.int .i64 d] w fun e w'=>e=.returned (.bool (isD d))/\w=w':=by
 unfold isD
 by_cases h0:0<=d
 ·by_cases h1:d<4
  ·rw[decide_eq_true ⟨h0,h1⟩]
   go_enter func146,ntmps146
   go_wp2;go_ret;exact ⟨rfl,rfl⟩
  ·rw[decide_eq_false (by omega)]
   go_enter func146,ntmps146
   go_wp2;go_ret;exact ⟨rfl,rfl⟩
 ·rw[decide_eq_false (by omega)]
  go_enter func146,ntmps146
  go_wp2;go_ret;exact ⟨rfl,rfl⟩
theorem z4Z(d:Int)(w:World):Calls prog 147 #[.int .i64 d] w fun e w'=>e=.returned (.bool (inA d))/\w=w':=z1q d w
theorem z5T(b o:Nat)(x:Vd)(w:World)(h0:w.cell? ⟨b,o,none⟩=some (.int .i64 x.tok))(h1:w.cell? ⟨b,o+1,none⟩=some (.int .i64 x.sh))(h2:w.cell? ⟨b,o+2,none⟩=some (.int .i64 x.lost))
  (h3:w.cell? ⟨b,o+3,none⟩=some (.bool x.jail)) (h4:w.cell? ⟨b,o+4,none⟩=some (.bool x.dead)) :
  Calls prog 141 #[.pointer (some ⟨b,o,none⟩)] w fun e w'=>e=.returned (.bool (vOk x))/\w=w':=by
 unfold vOk;have i1:=z4Z x.tok;have i2:=z4Z x.sh;have i3:=z4Z x.lost;obtain ⟨xt,xs,xl,xj,xd⟩:=x;simp only at *;generalize inA xt=t1 at *;generalize inA xs=t2 at *;generalize inA xl=t3 at *
 go_enter func141,ntmps141
 go_wp2_with (first
  | (go_at_call 147;have _m:=m2;refine (i3 _).mono ?_;rintro e w7 ⟨rfl,rfl⟩)
  | (go_at_call 147;have _m:=m1;refine (i2 _).mono ?_;rintro e w6 ⟨rfl,rfl⟩;have m2:True:=trivial)
  | (go_at_call 147;refine (i1 _).mono ?_;rintro e w5 ⟨rfl,rfl⟩;have m1:True:=trivial))
 all_goals (go_ret;refine ⟨?_,rfl⟩;congr 1;congr 1;simp_all)
end
section
def z0H(s:St)(d v n:Int):St×Int:=
 if z0S s d v=0 then
  if (s.V v.toNat).dead=true then (s,15)
  else if (decide (0<n) && inA n)=true then
   if shE (s.V v.toNat) n=0 then
    if (z2j s.b d n).2=0 then (q3x { s with b:=(z2j s.b d n).1 } d.toNat v.toNat n (shN (s.V v.toNat) n),0)
    else (s,(z2j s.b d n).2)
   else (s,shE (s.V v.toNat) n)
  else (s,2)
 else (s,z0S s d v)
end
section
open Go.RowKit
def q9Z(x y:Int):Int:=if x<y then -1 else if y<x then 1 else 0
theorem j5E(x y:Int):q9Z x y=if x<y then -1 else if y<x then 1 else 0:=rfl
def j1n(a b:Int×Int):Int:=q9Z a.1 b.1
def j5J(a b:Int×Int):Int:=if a.2=b.2 then j1n a b else q9Z b.2 a.2
theorem z7L(x:Int)(w:World):Calls prog 189 #[.int .i64 x] w fun e w'=>e=.returned (.bool false)/\w=w':=by
 go_enter func189,ntmps189
 go_wp2;go_ret;exact ⟨by simp,rfl⟩
theorem q3c(x y:Int)(w:World):Calls prog 160 #[.int .i64 x,.int .i64 y] w fun e w'=>e=.returned (.int .i64 (q9Z x y))/\w=w':=by
 have HC:=hide (j5E x y);generalize q9Z x y=r at *
 go_enter func160,ntmps160
 go_wp2_with (go_at_call 189;refine (z7L _ _).mono ?_;rintro e w1 ⟨rfl,rfl⟩)
 all_goals (go_ret;refine ⟨?_,rfl⟩;have h:=HC.out;first | (simp_all;done) | (simp_all;omega) | (rw[h,if_neg (by omega),if_neg (by omega)];rfl) | (rw[h,if_neg (by omega),if_pos (by omega)];rfl) | (rw[h,if_pos (by omega)];rfl))
theorem z6B(a b:Int×Int)(w:World):Calls prog 119 #[.agg #[.int .i64 a.1,.int .i64 a.2],.agg #[.int .i64 b.1,.int .i64 b.2]] w fun e w'=>e=.returned (.int .i64 (j1n a b))/\Below w.heap.size w w':=by
 have hc:=q3c a.1 b.1;unfold j1n;generalize q9Z a.1 b.1=r at *
 go_enter func119,ntmps119
 go_wp2_with (go_at_call 160;refine (hc _).mono ?_;rintro e w1 ⟨rfl,rfl⟩)
 go_ret;exact ⟨rfl,(znw _ _).alloc (by simp) _⟩
theorem q2d(a b:Int×Int)(w:World):Calls prog 118 #[.agg #[.int .i64 a.1,.int .i64 a.2],.agg #[.int .i64 b.1,.int .i64 b.2]] w fun e w'=>e=.returned (.int .i64 (j5J a b))/\Below w.heap.size w w':=by
 have hc:=q3c b.2 a.2;have hn:=fun w=>z6B a b w
 by_cases h:a.2=b.2
 ·have e:j5J a b=j1n a b:=if_pos h;rw[e];generalize j1n a b=r at *;have hb:(a.2 != b.2)=false:=by simpa using h
  clear hc;obtain ⟨a1,a2⟩:=a;obtain ⟨b1,b2⟩:=b;simp only at *;subst h
  go_enter func118,ntmps118
  go_wp2_with (go_at_call 119;refine (hn _).mono ?_;rintro e w1 ⟨rfl,h1⟩)
  go_ret;exact ⟨rfl,((znw _ _).alloc (by simp) _).trans (h1.mono (by simp;omega))⟩
 ·have e:j5J a b=q9Z b.2 a.2:=if_neg h;rw[e];generalize q9Z b.2 a.2=r at *;have hb:(a.2 != b.2)=true:=by simpa using h
  go_enter func118,ntmps118
  go_wp2_with (go_at_call 160;refine (hc _).mono ?_;rintro e w1 ⟨rfl,rfl⟩)
  go_ret;exact ⟨rfl,(znw _ _).alloc (by simp) _⟩
theorem z7V{n:Int}(h0:-9223372036854775808<=n)(h1:n<9223372036854775808):IntKind.i64.wrap n=n:=by
 rw[IntKind.wrap_i64];omega
abbrev Pw:=Int×Int
def pz:Pw:=(0,0)
def swapAt(l:List Pw)(p:Nat):List Pw:=(l.set (p+1) (l.getD p pz)).set p (l.getD (p+1) pz)
def z7X(lt:Pw->Pw->Bool):Nat->List Pw->List Pw
 | 0,l=>l
 | p+1,l=>if lt (l.getD (p+1) pz) (l.getD p pz)=true then z7X lt p (swapAt l p) else l
def z1l(lt:Pw->Pw->Bool)(l:List Pw):Nat->List Pw
 | 0=>l
 | m+1=>z7X lt (m+1) (z1l lt l m)
def z2m(lt:Pw->Pw->Bool)(l:List Pw):List Pw:=z1l lt l (l.length - 1)
def ltV(a b:Pw):Bool:=decide (j1n a b<0)
def ltP(a b:Pw):Bool:=decide (j5J a b<0)
def z1F(w:World)(g:Nat)(l:List Pw):Prop:=∃ cur,w.heap[g]?=some (.cells cur 68 (0,0))/\∀ i x,l[i]?=some x->cur[i * 2]?=some (.int .i64 x.1)/\cur[i * 2+1]?=some (.int .i64 x.2)
theorem z2X(l:List Pw)(p:Nat):(swapAt l p).length=l.length:=by simp[swapAt]
theorem z8B(lt:Pw->Pw->Bool):∀ (j:Nat) (l:List Pw),(z7X lt j l).length=l.length
 | 0,_=>rfl
 | p+1,l=>by rw[z7X];split;rw[z8B lt p,z2X];rfl
theorem z1N(lt:Pw->Pw->Bool)(l:List Pw):∀ m,(z1l lt l m).length=l.length
 | 0=>rfl
 | m+1=>by rw[z1l,z8B,z1N lt l m]
structure z2J(g:Nat)(w w':World):Prop where
 os:w'.os=w.os
 tape:w'.tape=w.tape
 output:w'.output=w.output
 size:w.heap.size<=w'.heap.size
 block:∀ k,k<w.heap.size->k≠g->w'.heap[k]?=w.heap[k]?
theorem z2J.refl(g:Nat)(w:World):z2J g w w:=⟨rfl,rfl,rfl,Nat.le_refl _,fun _ _ _=>rfl⟩
theorem z2J.trans{g:Nat}{a b c:World}(h:z2J g a b)(k:z2J g b c):z2J g a c:=
 ⟨k.os.trans h.os,k.tape.trans h.tape,k.output.trans h.output,Nat.le_trans h.size k.size,fun i hi hg=>(k.block i (Nat.lt_of_lt_of_le hi h.size) hg).trans (h.block i hi hg)⟩
theorem z2J.of_below{g:Nat}{a b:World}(h:Below a.heap.size a b):z2J g a b:=⟨h.os,h.tape,h.output,h.size,fun k hk _=>h.block k hk⟩
theorem z2J.set{g:Nat}{w w':World}(h:z2J g w w')(o:Nat)(v:Value):z2J g w (w'.setCell ⟨g,o,none⟩ v):=
 ⟨h.os,h.tape,h.output,(by simp[World.setCell];exact h.size),fun k hk hg=>(Below.heap_setCell _ _ _ _ hg).trans (h.block k hk hg)⟩
theorem z2J.drew{g:Nat}{w w':World}(h:z2J g w w'):z2J g w w'.drew:=⟨h.os,h.tape,h.output,h.size,h.block⟩
theorem z2J.drewN{g:Nat}{w w':World}(h:z2J g w w')(n:Nat):z2J g w (w'.drewN n):=⟨h.os,h.tape,h.output,h.size,h.block⟩
theorem z2J.below{g B:Nat}{w w':World}(h:z2J g w w')(hB:B<=g)(hs:B<=w.heap.size):Below B w w':=⟨h.os,h.tape,h.output,h.size,fun k hk=>h.block k (by omega) (by omega)⟩
theorem z1F.later{w w':World}{g:Nat}{l:List Pw}(h:z1F w g l)(hb:Below w.heap.size w w'):z1F w' g l:=by
 obtain ⟨cur,hc,hx⟩:=h;exact ⟨cur,(hb.block g (Array.getElem?_eq_some_iff.1 hc).1).trans hc,hx⟩
theorem z1F.cell{w:World}{g:Nat}{l:List Pw}(h:z1F w g l){i:Nat}(hi:i<l.length):w.cell? ⟨g,i * 2,none⟩=some (.int .i64 (l.getD i pz).1)/\w.cell? ⟨g,i * 2+1,none⟩=some (.int .i64 (l.getD i pz).2):=by
 obtain ⟨cur,hc,hx⟩:=h;have e:l[i]?=some (l.getD i pz):=by simp[List.getD,hi]
 obtain ⟨h1,h2⟩:=hx i _ e;simp only[World.cell?,hc]
 simp[h1,h2]
theorem z1F.free{w:World}{g:Nat}{l:List Pw}(h:z1F w g l)(o:Nat):w.frozen? ⟨g,o,none⟩=false:=by
 obtain ⟨cur,hc,_⟩:=h
 simp[World.frozen?,hc]
theorem z1F.lt{w:World}{g:Nat}{l:List Pw}(h:z1F w g l):g<w.heap.size:=by
 obtain ⟨cur,hc,_⟩:=h;exact (Array.getElem?_eq_some_iff.1 hc).1
theorem z1F.put{w:World}{g:Nat}{l:List Pw}(h:z1F w g l){i:Nat}(hi:i<l.length)(x:Pw):z1F ((w.setCell ⟨g,i * 2,none⟩ (.int .i64 x.1)).setCell ⟨g,i * 2+1,none⟩ (.int .i64 x.2)) g (l.set i x):=by
 have hc0:=h.cell hi;obtain ⟨cur,hc,hx⟩:=h
 have s1:i * 2<cur.size:=by
  have:=(hx i _ (List.getElem?_eq_getElem hi)).1;exact (Array.getElem?_eq_some_iff.1 this).1
 have s2:i * 2+1<cur.size:=by
  have:=(hx i _ (List.getElem?_eq_getElem hi)).2;exact (Array.getElem?_eq_some_iff.1 this).1
 refine ⟨(cur.setIfInBounds (i * 2) (.int .i64 x.1)).setIfInBounds (i * 2+1) (.int .i64 x.2),?_,fun j y hy=>?_⟩
 ·simp[World.setCell,Array.getElem?_modify,hc]
 ·rw[List.getElem?_set]at hy
  by_cases hj:i=j
  ·subst hj;rw[if_pos rfl,if_pos hi]at hy
   simp at hy
   subst hy
   simp[s1,s2]
  ·rw[if_neg hj]at hy;obtain ⟨h1,h2⟩:=hx j y hy;simp only[Array.getElem?_setIfInBounds];rw[if_neg (by omega),if_neg (by omega),if_neg (by omega),if_neg (by omega)]
   exact ⟨h1,h2⟩
theorem q9Q(g cap:Nat)(l:List Pw)(w:World)(h:z1F w g l)(hn:l.length<=12) :
  Calls prog 179 #[.slice (some ⟨g,0,none⟩) l.length cap,.int .i64 0,.int .i64 (l.length:Int),.func (.func 119) #[] #[]] w fun e w'=>e=.returned (.tuple #[])/\z1F w' g (z2m ltV l)/\z2J g w w':=by
 have HR0:=hide h;clear h
 go_enter func179,ntmps179
 go_wp2
 go_loopw [8] (fun i wl=>∃ m:Nat,i=.int .i64 ((m:Int)+1)/\(m+1<=l.length∨m=0)/\Hid (z1F wl g (z1l ltV l m)/\z2J g w wl)) (fun i _=>l.length - (intOf i).toNat)
 case atStart=>exact ⟨0,rfl,.inr rfl,HR0.out,z2J.refl _ _⟩
 case round =>
  obtain ⟨m,rfl,hm,HR⟩:=hrel
  by_cases hlt:m+1<l.length
  ·rename World=>wo
   have hlt':(m:Int)+1<(l.length:Int):=by omega
   go_wp2_with fail
   go_loopw [9] (fun j wl=>∃ (p:Nat) (l':List Pw),j=.int .i64 (p:Int)/\p<=m+1/\l'.length=l.length/\Hid (z7X ltV (m+1) (z1l ltV l m)=z7X ltV p l'/\z1F wl g l'/\z2J g w wl)) (fun j _=>(intOf j).toNat)
   case atStart=>exact ⟨m+1,z1l ltV l m,by go_num,Nat.le_refl _,z1N _ _ _,rfl,HR.out⟩
   case round =>
    obtain ⟨p,l',rfl,hp,hl',HI⟩:=hrel;have hsz:w.heap.size<=wr.heap.size:=HI.out.2.2.size;cases p with
    | zero =>
     have hg0:decide ((0:Int)<0)=false:=by decide
     go_upto_region 4 with fail
     go_quiet (fail);go_wp2;go_roundw
     case rel=>exact ⟨m+1,by go_num,.inl (by omega),(by rw[z1l,HI.out.1];exact HI.out.2.1),(show z2J g w (wr.drewN nq) from HI.out.2.2.drewN nq)⟩
     case measure=>simp[intOf];omega
    | succ p =>
     have hp1:p+1<l'.length:=by omega
     obtain ⟨c0,c1⟩:=HI.out.2.1.cell (i:=p+1) hp1;obtain ⟨d0,d1⟩:=HI.out.2.1.cell (i:=p) (by omega)
     have hC:=z6B (l'.getD (p+1) pz) (l'.getD p pz);have hgl:=HI.out.2.1.lt;have HI1:Hid (z7X ltV (m+1) (z1l ltV l m)=if ltV (l'.getD (p+1) pz) (l'.getD p pz)=true then z7X ltV p (swapAt l' p) else l'):=HI.out.1;have hlt2:Hid (ltV (l'.getD (p+1) pz) (l'.getD p pz)=decide (j1n (l'.getD (p+1) pz) (l'.getD p pz)<0)):=rfl;have HRow:=hide HI.out.2;clear HI;generalize j1n (l'.getD (p+1) pz) (l'.getD p pz)=r at *;generalize hA:l'.getD (p+1) pz=A at *;generalize hB:l'.getD p pz=B at *;have HA:=hide hA;have HB:=hide hB;clear hA hB;have hw1:IntKind.i64.wrap (((p+1:Nat):Int) - 1)=(p:Int):=by rw[show ((p+1:Nat):Int) - 1=(p:Int) by omega];exact z7V (by omega) (by omega)
     generalize hq:p+1=q at *;have HQ:=hide hq;clear hq;have hq0:(0:Int)<=(q:Int):=by omega
     have hq1:(q:Int)<(l.length:Int):=by omega
     have hp0:(0:Int)<=(p:Int):=by omega
     have hp2:(p:Int)<(l.length:Int):=by have:=HQ.out;omega
     have hg0:decide (0<q)=true:=by have:=HQ.out;simp;omega
     go_upto_region 4 with fail
     go_region_held3 (fun wx=>wx.cell? ⟨g,q * 2,none⟩=some (.int .i64 A.1)/\wx.cell? ⟨g,q * 2+1,none⟩=some (.int .i64 A.2)/\wx.cell? ⟨g,p * 2,none⟩=some (.int .i64 B.1)/\wx.cell? ⟨g,p * 2+1,none⟩=some (.int .i64 B.2)) (first | go_keep | (refine ⟨?_,?_,?_,?_⟩ <;> (rw[hbC.cell hgl];simp[*])))
      (first | (go_at_call 119;refine (hC _).mono ?_;rintro e w1 ⟨rfl,hbC⟩))
     rename_i hh;obtain ⟨c0',c1',d0',d1'⟩:=hh;have hR1:=HRow.out.1.later (w':=w1) (show Below wr.heap.size wr w1 from ((Below.refl _ wr).drew.trans hbC));have hB1:z2J g w w1:=HRow.out.2.trans (z2J.of_below (show Below wr.heap.size wr w1 from ((Below.refl _ wr).drew.trans hbC)));have HR1:=hide hR1;have HB1:=hide hB1;have f0:=hR1.free (q * 2);have f1:=hR1.free (q * 2+1);have f2:=hR1.free (p * 2);have f3:=hR1.free (p * 2+1);clear hR1 hB1 hbC c0 c1 d0 d1 HRow hC
     by_cases hr:r<0
     ·have hd:decide (r<0)=true:=by simpa using hr
      rw[hd];have hqp:=HQ.out;have n1:¬ p=q:=by omega
      have n2:¬ q=p:=by omega
      have n3:¬ p * 2=q * 2+1:=by omega
      have n4:¬ q * 2=p * 2+1:=by omega
      have n5:¬ p * 2+1=q * 2:=by omega
      have n6:¬ q * 2+1=p * 2:=by omega
      have n7:¬ p * 2=q * 2:=by omega
      have n8:¬ q * 2=p * 2:=by omega
      clear hqp
      go_upto_region 6 with fail
      go_region;have hsw:(l'.set q B).set p A=swapAt l' p:=by rw[swapAt,HQ.out,HA.out,HB.out]
      have HR2:Hid (z1F (((((w1.setCell ⟨g,q * 2,none⟩ (.int .i64 B.1)).setCell ⟨g,q * 2+1,none⟩ (.int .i64 B.2)).setCell ⟨g,p * 2,none⟩ (.int .i64 A.1)).setCell ⟨g,p * 2+1,none⟩ (.int .i64 A.2)).drew) g (swapAt l' p)):=by
       rw[← hsw];exact (HR1.out.put hp1 B).put (by simp;omega) A
      have HB2:Hid (z2J g w (((((w1.setCell ⟨g,q * 2,none⟩ (.int .i64 B.1)).setCell ⟨g,q * 2+1,none⟩ (.int .i64 B.2)).setCell ⟨g,p * 2,none⟩ (.int .i64 A.1)).setCell ⟨g,p * 2+1,none⟩ (.int .i64 A.2)).drew)):=((((HB1.out.set _ _).set _ _).set _ _).set _ _).drew;have HE:Hid (z7X ltV (m+1) (z1l ltV l m)=z7X ltV p (swapAt l' p)):=by rw[HI1.out,hlt2.out,hd];exact if_pos rfl
      clear hsw;generalize ((((w1.setCell ⟨g,q * 2,none⟩ (.int .i64 B.1)).setCell ⟨g,q * 2+1,none⟩ (.int .i64 B.2)).setCell ⟨g,p * 2,none⟩ (.int .i64 A.1)).setCell ⟨g,p * 2+1,none⟩ (.int .i64 A.2)).drew=w2 at *;go_wp2;go_roundw
      case rel=>exact ⟨p,swapAt l' p,rfl,by have:=HQ.out;omega,(by rw[z2X];exact hl'),HE.out,HR2.out,HB2.out⟩
      case measure=>have:=HQ.out;simp[intOf];omega
     ·have hd:decide (r<0)=false:=by simpa using hr
      rw[hd];have HE:Hid (z7X ltV (m+1) (z1l ltV l m)=l'):=by rw[HI1.out,hlt2.out,hd];exact if_neg (by simp)
      go_wp2;go_roundw
      case rel=>exact ⟨m+1,by go_num,.inl (by omega),(by rw[z1l,HE.out];exact HR1.out),HB1.out⟩
      case measure=>simp[intOf];omega
  ·have hE:z2m ltV l=z1l ltV l m:=by
    unfold z2m
    rcases hm with h | rfl
    ·rw[show l.length - 1=m by omega]
    ·rcases (show l.length=0∨l.length=1 by omega) with h | h <;> rw[h]
   have HE:=hide hE;clear hE;go_wp2;go_end0;exact ⟨rfl,by rw[HE.out];exact HR.out.1,HR.out.2⟩
end
namespace Mt
open Go.RowKit
def I64(a:Int):Prop:=-9223372036854775808<=a/\a<=9223372036854775807
def alw(a:Int):Int:=if a<5 then 1 else a / 5
theorem j8k(a:Int):1<=alw a:=by unfold alw;split <;> omega
theorem z0u(w:World)(o:Obj):Below w.heap.size w (w.alloc o):=znw _ o
theorem z1K{w w1 w2:World}(h:Below w.heap.size w w1)(k:Below w1.heap.size w1 w2):Below w.heap.size w w2:=zbt h k
theorem j9e{a:Int}(h:I64 a)(h5:5<=a):wrap64 (a.tdiv 5)=a / 5:=by
 unfold I64 at h;rw[Int.tdiv_eq_ediv_of_nonneg (by omega)]
 unfold wrap64;omega
theorem j8s{a:Int}(h:I64 a)(h5:a<5):∃ q,wrap64 (a.tdiv 5)=q/\q<1:=by
 refine ⟨_,rfl,?_⟩;unfold I64 at h
 by_cases h0:0<=a
 ·rw[Int.tdiv_eq_ediv_of_nonneg (by omega)]
  unfold wrap64;omega
 ·have e:a.tdiv 5=-((-a) / 5):=by
   rw[show a=-(-a) by omega,Int.neg_tdiv,Int.tdiv_eq_ediv_of_nonneg (by omega)]
   simp
  rw[e];unfold wrap64;omega
theorem j3w(a:Int)(h:I64 a)(w:World):Calls prog 19 #[.int .i64 a] w fun e w'=>e=.returned (.int .i64 (alw a))/\w=w':=by
 by_cases h5:a<5
 ·obtain ⟨q,hq,hq1⟩:=j8s h h5;rw[show alw a=1 from if_pos h5];clear h5 h
  go_enter func19,ntmps19
  go_wp2;go_ret;exact ⟨rfl,rfl⟩
 ·have hq:=j9e h (by omega)
  rw[show alw a=a / 5 from if_neg h5];have hq1:1<=a / 5:=by omega
  generalize a / 5=q at *;clear h5 h
  go_enter func19,ntmps19
  go_wp2;go_ret;exact ⟨rfl,rfl⟩
def MAt(w:World)(b:Nat)(l n:Int):Prop:=w.heap[b]?=some (.cells #[.int .i64 l,.int .i64 n] 54)
section
variable {w w':World} {b B:Nat} {l n:Int}
theorem MAt.later(h:MAt w b l n)(hb:Below B w w')(hB:b<B):MAt w' b l n:=(hb.block b hB).trans h
theorem MAt.new(w:World)(l n:Int):MAt (w.alloc (.cells #[.int .i64 l,.int .i64 n] 54)) w.heap.size l n:=heap_alloc_new _ _
theorem MAt.new2(w:World)(o:Obj)(l n:Int):MAt ((w.alloc o).alloc (.cells #[.int .i64 l,.int .i64 n] 54)) (w.heap.size+1) l n:=by
 have:=MAt.new (w.alloc o) l n
 rwa [show (w.alloc o).heap.size=w.heap.size+1 by simp]at this
theorem MAt.lt(h:MAt w b l n):b<w.heap.size:=(Array.getElem?_eq_some_iff.1 h).1
theorem MAt.facts(h:MAt w b l n):(w.cell? ⟨b,0,none⟩=some (.int .i64 l)/\w.cell? ⟨b,1,none⟩=some (.int .i64 n))/\(w.frozen? ⟨b,0,none⟩=false/\w.frozen? ⟨b,1,none⟩=false):=by
 unfold MAt at h
 simp[World.cell?,World.frozen?,h]
theorem MAt.set(h:MAt w b l n)(l' n':Int):MAt ((w.setCell ⟨b,0,none⟩ (.int .i64 l')).setCell ⟨b,1,none⟩ (.int .i64 n')) b l' n':=by
 unfold MAt at *
 simp[World.setCell,Array.getElem?_modify,h]
end
theorem z7C{f:Func}{p:Tmp}(hres:f.results=#[.cell p 54]){w wq:World}{g:Nat}{l n:Int}(R:MAt wq g l n)(H:Below w.heap.size w wq)(act:Act)(h8:act.tmps.getD p undef=.pointer (some ⟨g,0,none⟩))(hd:act.defers=[]) :
  bodyPost prog f (fun e w'=>e=.returned (.agg #[.int .i64 l,.int .i64 n])/\Below w.heap.size w w') Exit.ret act wq:=by
 obtain ⟨⟨u0,u1⟩,-⟩:=R.facts;have h8':act.tmps[p]?.getD undef=.pointer (some ⟨g,0,none⟩):=by simpa using h8
 exact bodyPost_ret (v:=.agg #[.int .i64 l,.int .i64 n]) (by simp[results,hres,go_sem,h8',u0,u1]) hd ⟨rfl,H⟩
theorem z9f{f:Func}{p q:Tmp}(hres:f.results=#[.cell p 54,.tmp q]){w wq:World}{g:Nat}{l n:Int}{t:Bool}(R:MAt wq g l n)(H:Below w.heap.size w wq)(act:Act)(h8:act.tmps.getD p undef=.pointer (some ⟨g,0,none⟩))(h9:act.tmps.getD q undef=.bool t)(hd:act.defers=[]) :
  bodyPost prog f (fun e w'=>e=.returned (.tuple #[.agg #[.int .i64 l,.int .i64 n],.bool t])/\Below w.heap.size w w') Exit.ret act wq:=by
 obtain ⟨⟨u0,u1⟩,-⟩:=R.facts;have h8':act.tmps[p]?.getD undef=.pointer (some ⟨g,0,none⟩):=by simpa using h8
 have h9':act.tmps[q]?.getD undef=.bool t:=by simpa using h9
 exact bodyPost_ret (v:=.tuple #[.agg #[.int .i64 l,.int .i64 n],.bool t]) (by simp[results,hres,go_sem,h8',h9',u0,u1]) hd ⟨rfl,H⟩
theorem z9S(w:World)(o p:Obj):Below w.heap.size w ((w.alloc o).alloc p):=(z0u w o).alloc (by simp) p
theorem q2Y(a t:Int)(h:I64 a)(w:World):Calls prog 36 #[.int .i64 a,.int .i64 t] w fun e w'=>e=.returned (.agg #[.int .i64 (alw a),.int .i64 (wrap64 (t+10))])/\Below w.heap.size w w':=by
 have ha:=j3w a h;generalize alw a=A at *
 go_enter func36,ntmps36
 go_wp2_with (go_at_call 19;refine (ha _).mono ?_;rintro e w2 ⟨rfl,rfl⟩)
 exact z7C results36 (MAt.new _ _ _) (z0u w _) _ rfl rfl
theorem q6J(l n a t:Int)(h:I64 a)(w:World):Calls prog 82 #[.agg #[.int .i64 l,.int .i64 n],.int .i64 a,.int .i64 t] w fun e w'=>e=.returned (.agg #[.int .i64 (if t<n then l else alw a),.int .i64 (if t<n then n else wrap64 (t+10))])/\Below w.heap.size w w':=by
 have hn:=q2Y a t h;generalize alw a=A at *;generalize wrap64 (t+10)=T at *
 by_cases hlt:t<n
 ·rw[if_pos hlt,if_pos hlt]
  go_enter func82,ntmps82
  go_wp2;exact z7C results82 (MAt.new2 _ _ _ _) (z9S w _ _) _ rfl rfl
 ·rw[if_neg hlt,if_neg hlt];have R:=MAt.new2 w (.cells #[.int .i64 l,.int .i64 n] 54) 0 0;have B:=z9S w (.cells #[.int .i64 l,.int .i64 n] 54) (.cells #[.int .i64 0,.int .i64 0] 54)
  go_enter func82,ntmps82
  go_upto_region 3 with fail
  generalize ((w.alloc (.cells #[.int .i64 l,.int .i64 n] 54)).alloc (.cells #[.int .i64 0,.int .i64 0] 54))=w1 at *
  go_wp2_with (go_at_call 36;refine (hn _).mono ?_;rintro e w2 ⟨rfl,hb⟩;have R2:=R.later hb R.lt;obtain ⟨⟨c0,c1⟩,⟨f0,f1⟩⟩:=R2.facts)
  exact z7C results82 (R2.set _ _) (((z1K B hb).setCell (Nat.le_succ _) _).setCell (Nat.le_succ _) _) _ rfl rfl
theorem q9a(l n a:Int)(w:World):Calls prog 176 #[.agg #[.int .i64 l,.int .i64 n],.int .i64 a] w fun e w'=>e=.returned (.tuple #[.agg #[.int .i64 (if l<1 then l else wrap64 (l - a)),.int .i64 n],.bool (if l<1 then false else true)])/\Below w.heap.size w w':=by
 by_cases hlt:l<1
 ·rw[if_pos hlt,if_pos hlt]
  go_enter func176,ntmps176
  go_wp2;exact z9f results176 (MAt.new2 _ _ _ _) (z9S w _ _) _ rfl rfl rfl
 ·rw[if_neg hlt,if_neg hlt]
  go_enter func176,ntmps176
  go_wp2;exact z9f results176 (MAt.new2 _ _ _ _) (z9S w _ _) _ rfl rfl rfl
end Mt
end Go.Proofs.YtmopekkhmhhcaaaGreat
