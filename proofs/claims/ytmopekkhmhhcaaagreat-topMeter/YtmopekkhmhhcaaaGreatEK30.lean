/- Parts of the proof. -/
import Derived.Test.YtmopekkhmhhcaaaGreatEL
import Derived.Test.YtmopekkhmhhcaaaGreatEK0
import Derived.Test.YtmopekkhmhhcaaaGreatEK2
import Derived.Deep.DeepCutAuto
import Derived.OneCell
import Derived.OwnWalk
import Derived.Deep.OwnRows
import Derived.WideShapes
import Derived.Laws.BytesArg
import Derived.ChangeKeysEq
import Derived.Deep.RegionHeld3
import Derived.Deep.RegionWith
set_option maxRecDepth 100000
set_option maxHeartbeats 16000000
namespace Go.Proofs.YtmopekkhmhhcaaaGreat
open Go.Proofs.Tryz
section
open Go.RowKit
def spl(cs:Array Value):Nat->List Value->Array Value
 | _,[]=>cs
 | o,v :: r=>spl (cs.setIfInBounds o v) (o+1) r
theorem q1t:∀ (vs:List Value) (cs:Array Value) (o i:Nat),o+vs.length<=cs.size->(spl cs o vs)[i]?=if o<=i/\i<o+vs.length then vs[i - o]? else cs[i]?
 | [],cs,o,i,_=>by simp[spl];intro h1 h2;omega
 | v :: r,cs,o,i,h=>by
  simp only[List.length_cons]at h;rw[spl,q1t r _ (o+1) i (by simp;omega)]
  by_cases e:i=o
  ·subst e;have:i<cs.size:=by omega
   simp[this]
   intro h1;omega
  ·by_cases h1:o+1<=i/\i<o+1+r.length
   ·rw[if_pos h1,if_pos ⟨by omega,by simp;omega⟩]
    obtain ⟨j,rfl⟩:∃ j,i=o+1+j:=⟨i - (o+1),by omega⟩
    rw[show o+1+j - (o+1)=j by omega,show o+1+j - o=j+1 by omega]
    simp
   ·rw[if_neg h1,if_neg (by simp;omega),Array.getElem?_setIfInBounds_ne (by omega)]
theorem q9E{cs ds:Array Value}(h:ds.size=cs.size):spl cs 0 ds.toList=ds:=by
 apply Array.ext_getElem?;intro i;rw[q1t _ _ _ _ (by simp;omega)]
 by_cases hi:i<ds.size
 ·rw[if_pos ⟨by omega,by simp;omega⟩];simp
 ·rw[if_neg (by simp;omega),Array.getElem?_eq_none (by omega),Array.getElem?_eq_none (by omega)]
theorem z0b{B b:Nat}{a:World}(hB:B<=b):∀ (vs:List Value) (o:Nat) (w:World),Below B a w->Below B a (w.setCells b o vs)
 | [],_,_,h=>h
 | v :: r,o,_,h=>z0b hB r (o+1) _ (h.setCell hB v)
theorem z1a{b k:Nat}(hk:k≠b):∀ (vs:List Value) (o:Nat) (w:World),(w.setCells b o vs).heap[k]?=w.heap[k]?
 | [],_,_=>rfl
 | _ :: r,o,_=>(z1a hk r (o+1) _).trans (Below.heap_setCell _ _ _ _ hk)
end
namespace Pv
open Go.RowKit
theorem hide{p:Prop}(h:p):Hid p:=h
def CAt(ty:TypeId)(w:World)(b:Nat)(cs:Array Value):Prop:=w.heap[b]?=some (.cells cs ty)
section
variable {ty:TypeId} {w w':World} {b B:Nat} {cs:Array Value}
theorem CAt.new(ty:TypeId)(w:World)(cs:Array Value):CAt ty (w.alloc (.cells cs ty)) w.heap.size cs:=heap_alloc_new _ _
theorem CAt.new2(ty:TypeId)(w:World)(o:Obj)(cs:Array Value):CAt ty ((w.alloc o).alloc (.cells cs ty)) (w.heap.size+1) cs:=by
 have h:=CAt.new ty (w.alloc o) cs
 rwa [show (w.alloc o).heap.size=w.heap.size+1 by simp]at h
theorem CAt.later(h:CAt ty w b cs)(hb:Below B w w')(hB:b<B):CAt ty w' b cs:=(hb.block b hB).trans h
theorem CAt.lt(h:CAt ty w b cs):b<w.heap.size:=(Array.getElem?_eq_some_iff.1 h).1
theorem CAt.over(h:CAt ty w b cs)(hb:Below w.heap.size w w'):CAt ty w' b cs:=h.later hb h.lt
theorem CAt.alloc(h:CAt ty w b cs)(o:Obj):CAt ty (w.alloc o) b cs:=(Below.heap_alloc _ _ _ h.lt).trans h
theorem CAt.keep(h:CAt ty w b cs)(hk:w'.heap[b]?=w.heap[b]?):CAt ty w' b cs:=hk.trans h
theorem CAt.other{c o:Nat}(h:CAt ty w b cs)(hb:b≠c)(v:Value):CAt ty (w.setCell ⟨c,o,none⟩ v) b cs:=(Below.heap_setCell _ _ _ _ hb).trans h
theorem CAt.others{c o:Nat}(h:CAt ty w b cs)(hb:b≠c)(vs:List Value):CAt ty (w.setCells c o vs) b cs:=(z1a hb _ _ _).trans h
theorem CAt.cell(h:CAt ty w b cs)(o:Nat):w.cell? ⟨b,o,none⟩=cs[o]?:=by
 unfold CAt at h
 simp[World.cell?,h]
theorem CAt.free(h:CAt ty w b cs)(o:Nat):w.frozen? ⟨b,o,none⟩=false:=by
 unfold CAt at h
 simp[World.frozen?,h]
theorem CAt.set(h:CAt ty w b cs)(o:Nat)(v:Value):CAt ty (w.setCell ⟨b,o,none⟩ v) b (cs.setIfInBounds o v):=by
 unfold CAt at *
 simp[World.setCell,Array.getElem?_modify,h]
theorem CAt.range(h:CAt ty w b cs):w.rangeAt b 0 cs.toList:=by
 intro j v hv;rw[Nat.zero_add,h.cell]
 simpa using hv
theorem CAt.part(h:CAt ty w b cs){o:Nat}{ds:List Value}(hd:∀ j v,ds[j]?=some v->cs[o+j]?=some v):w.rangeAt b o ds:=by
 intro j v hv;rw[h.cell];exact hd j v hv
theorem CAt.there(h:CAt ty w b cs)(o n:Nat)(hn:o+n<=cs.size):w.there b o n:=by
 intro j hj;rw[h.cell,h.free];have:o+j<cs.size:=by omega
 simp[this]
theorem CAt.sets:∀ (vs:List Value) (o:Nat) (w:World) (cs:Array Value),CAt ty w b cs->CAt ty (w.setCells b o vs) b (spl cs o vs)
 | [],_,_,_,h=>h
 | v :: r,o,_,_,h=>CAt.sets r (o+1) _ _ (h.set o v)
theorem CAt.z0G{ds:Array Value}(h:CAt ty w b cs)(hd:ds.size=cs.size):CAt ty (w.setCells b 0 ds.toList) b ds:=by
 have:=CAt.sets ds.toList 0 w cs h
 rwa [q9E hd]at this
end
def Rep(P:Nat->Prop)(w:World)(v:Value)(sz bts:Nat)(cs:List Value):Prop:=
 ∃ (A:Option Addr) (n C:Nat),v=.slice A n C/\cs.length=n * sz/\n * bts<=140737488351232/\((A=none->C=0)/\n<=C) /\
  (0<n->∃ b off,A=some ⟨b,off,none⟩/\P b/\b<w.heap.size/\∀ j u,cs[j]?=some u->w.cell? ⟨b,off+j,none⟩=some u)
section
variable {P P':Nat->Prop} {w w':World} {v:Value} {sz bts:Nat} {cs:List Value}
theorem Rep.nil(P:Nat->Prop)(w:World)(sz bts:Nat):Rep P w (.slice none 0 0) sz bts []:=⟨none,0,0,rfl,by simp,by simp,⟨fun _=>rfl,Nat.le_refl _⟩,fun h=>absurd h (by omega)⟩
theorem Rep.mono(h:Rep P w v sz bts cs)(hp:∀ b,b<w.heap.size->P b->P' b):Rep P' w v sz bts cs:=by
 obtain ⟨A,n,C,h1,h2,h3,h4,h5⟩:=h;refine ⟨A,n,C,h1,h2,h3,h4,fun h0=>?_⟩;obtain ⟨b,off,a1,a2,a3,a4⟩:=h5 h0;exact ⟨b,off,a1,hp b a3 a2,a3,a4⟩
theorem Rep.keep(h:Rep P w v sz bts cs)(hk:∀ b,P b->b<w.heap.size->w'.heap[b]?=w.heap[b]?):Rep P w' v sz bts cs:=by
 obtain ⟨A,n,C,h1,h2,h3,h4,h5⟩:=h;refine ⟨A,n,C,h1,h2,h3,h4,fun h0=>?_⟩;obtain ⟨b,off,a1,a2,a3,a4⟩:=h5 h0
 have hlt:b<w'.heap.size:=by
  have e:=hk b a2 a3;rw[Array.getElem?_eq_getElem a3]at e;exact (Array.getElem?_eq_some_iff.1 e).1
 refine ⟨b,off,a1,a2,hlt,fun j u hu=>?_⟩;rw[← a4 j u hu];exact World.cell?_of_block (w:=w) (a:=⟨b,off+j,none⟩) (hk b a2 a3)
theorem Rep.over(h:Rep P w v sz bts cs)(hb:Below w.heap.size w w'):Rep P w' v sz bts cs:=h.keep fun b _ hlt=>hb.block b hlt
theorem Rep.open(h:Rep P w v sz bts cs){n:Nat}(hn:cs.length=n * sz)(hz:0<sz):∃ (A:Option Addr) (C:Nat),v=.slice A n C/\n * bts<=140737488351232/\(A=none->n=0/\C=0)/\(0<n->∃ b off,A=some ⟨b,off,none⟩/\P b/\b<w.heap.size/\∀ j u,cs[j]?=some u->w.cell? ⟨b,off+j,none⟩=some u)/\(∀ ad,A=some ad->∀ j u,cs[j]?=some u->w.cell? (ad.add j)=some u):=by
 obtain ⟨A,m,C,h1,h2,h3,h4,h5⟩:=h;have e:m=n:=Nat.eq_of_mul_eq_mul_right hz (h2.symm.trans hn);subst e;refine ⟨A,C,h1,h3,fun e=>⟨?_,h4.1 e⟩,h5,fun ad e j u hu=>?_⟩
 ·rcases Nat.eq_zero_or_pos m with h0 | h0
  ·exact h0
  ·obtain ⟨b,off,a1,_⟩:=h5 h0;rw[a1]at e;cases e
 ·rcases Nat.eq_zero_or_pos m with h0 | h0
  ·subst h0;have:=(List.getElem?_eq_some_iff.1 hu).1;omega
  ·obtain ⟨b,off,a1,_,_,a4⟩:=h5 h0;rw[a1]at e;cases e;rw[Addr.add_lit];exact a4 j u hu
theorem Rep.room(h:Rep P w v sz bts cs){A:Option Addr}{n C:Nat}(hv:v=.slice A n C):n<=C/\(A=none->C=0):=by
 obtain ⟨A',n',C',h1,_,_,h4,_⟩:=h;rw[hv]at h1;cases h1;exact ⟨h4.2,h4.1⟩
theorem Rep.own{base n:Nat}{e:TypeId}(h:w.ownsRow base e sz v n cs)(hb:n * bts<=140737488351232):Rep (fun b=>base<=b) w v sz bts cs:=by
 rcases h.2 with ⟨hv,hn⟩ | ⟨g,cap,cur,hv,h1,h2,h3,_⟩
 ·exact ⟨none,0,0,hv,by rw[h.1,hn],by omega,⟨fun _=>rfl,Nat.le_refl _⟩,fun h=>absurd h (by omega)⟩
 ·subst hv;refine ⟨_,n,cap,rfl,h.1,hb,⟨fun h=>(by cases h),h3⟩,fun _=>⟨g,0,rfl,h1,(Array.getElem?_eq_some_iff.1 h2).1,fun j u hu=>?_⟩⟩
  have:=World.ownsRow.cells h (g:=g) rfl j u hu
  rwa [Addr.add_lit]at this
end
def pwC(l:List (Int×Int)):List Value:=l.flatMap fun x=>[.int .i64 x.1,.int .i64 x.2]
def inC(l:List Int):List Value:=l.map (.int .i64)
def txC(l:List ByteArray):List Value:=l.map .string
theorem z0c:∀ l:List (Int×Int),(pwC l).length=l.length * 2
 | []=>rfl
 | x :: l=>by show (_ ++ pwC l).length=_;rw[List.length_append,z0c l,List.length_cons];simp;omega
theorem z0n(l:List Int):(inC l).length=l.length * 1:=by simp[inC]
theorem z1P(l:List ByteArray):(txC l).length=l.length * 1:=by simp[txC]
theorem z1U:∀ (l:List (Int×Int)) (i:Nat),i<l.length->(pwC l)[i * 2]?=some (.int .i64 (l.getD i (0,0)).1)/\(pwC l)[i * 2+1]?=some (.int .i64 (l.getD i (0,0)).2)
 | [],i,h=>absurd h (by simp)
 | x :: l,0,_=>⟨rfl,rfl⟩
 | x :: l,i+1,h=>by
  have:=z1U l i (by simpa using h)
  rw[show (i+1) * 2=i * 2+2 by omega]
  exact this
theorem z4q(l:List Int)(i:Nat)(h:i<l.length):(inC l)[i]?=some (.int .i64 (l.getD i 0)):=by simp[inC,List.getD,h]
theorem z7t(l:List ByteArray)(i:Nat)(h:i<l.length):(txC l)[i]?=some (.string (l.getD i ByteArray.empty)):=by simp[txC,List.getD,h]
theorem z5R(l:List (Int×Int)):∀ u∈pwC l,u.oneCell'=true:=fun u hu=>by
 simp only[pwC,List.mem_flatMap,List.mem_cons,List.not_mem_nil,or_false]at hu;obtain ⟨x,_,rfl | rfl⟩:=hu <;> rfl
structure Pkt where
 k:Int
 i:Int
 v:Int
 n:Int
 S:List (Int×Int)
 D:List Int
def j1u:List Nat->Code->Code
 | [],c=>c
 | 0 :: p,.seq a _=>j1u p a
 | 1 :: p,.seq _ b=>j1u p b
 | _ :: p,.block _ c=>j1u p c
 | _ :: p,.loop c=>j1u p c
 | 1 :: p,.cond _ a _=>j1u p a
 | 2 :: p,.cond _ _ b=>j1u p b
 | _,_=>.skip
end Pv
namespace Ln
open Go.RowKit
structure Line where
 S:List ByteArray
 D:List Int
 g:Int
 cl:Bool
def z0Z(w:World)(b off:Nat)(l:List Int):Prop:=∀ i,i<l.length->w.cell? ⟨b,off+i,none⟩=some (.int .i64 (l.getD i 0))
def z3m(w:World)(b off:Nat)(l:List ByteArray):Prop:=∀ i,i<l.length->w.cell? ⟨b,off+i,none⟩=some (.string (l.getD i ByteArray.empty))
theorem z0Z.z4k{B:Nat}{w w':World}{b off:Nat}{l:List Int}(h:z0Z w b off l)(hb:Below B w w')(hB:0<l.length->b<B):z0Z w' b off l:=fun i hi =>
 (hb.cell (p:=⟨b,off+i,none⟩) (hB (by omega))).trans (h i hi)
theorem z3m.z4k{B:Nat}{w w':World}{b off:Nat}{l:List ByteArray}(h:z3m w b off l)(hb:Below B w w')(hB:0<l.length->b<B):z3m w' b off l:=fun i hi =>
 (hb.cell (p:=⟨b,off+i,none⟩) (hB (by omega))).trans (h i hi)
theorem z0Z.later{w w':World}{b off:Nat}{l:List Int}(h:z0Z w b off l)(hb:Below w.heap.size w w'):z0Z w' b off l:=fun i hi =>
 (hb.cell (p:=⟨b,off+i,none⟩) (World.block_lt_of_cell? w _ (h i hi))).trans (h i hi)
theorem z3m.later{w w':World}{b off:Nat}{l:List ByteArray}(h:z3m w b off l)(hb:Below w.heap.size w w'):z3m w' b off l:=fun i hi =>
 (hb.cell (p:=⟨b,off+i,none⟩) (World.block_lt_of_cell? w _ (h i hi))).trans (h i hi)
structure LAt(w:World)(x:Line)(sa da:Option Addr)(cs cd sb so db dO:Nat):Prop where
 hls:x.S.length * 16<=140737488351232
 hld:x.D.length * 8<=140737488351232
 hsa:0<x.S.length->sa=some ⟨sb,so,none⟩
 hda:0<x.D.length->da=some ⟨db,dO,none⟩
 ncs:sa=none->cs=0
 ncd:da=none->cd=0
 PS:z3m w sb so x.S
 PD:z0Z w db dO x.D
theorem LAt.later{w w':World}{x:Line}{sa da:Option Addr}{cs cd sb so db dO:Nat}(h:LAt w x sa da cs cd sb so db dO)(hb:Below w.heap.size w w'):LAt w' x sa da cs cd sb so db dO:=
 ⟨h.hls,h.hld,h.hsa,h.hda,h.ncs,h.ncd,h.PS.later hb,h.PD.later hb⟩
theorem LAt.ltS{w:World}{x:Line}{sa da:Option Addr}{cs cd sb so db dO:Nat}(h:LAt w x sa da cs cd sb so db dO)(h0:0<x.S.length):sb<w.heap.size:=World.block_lt_of_cell? w _ (h.PS 0 h0)
theorem LAt.ltD{w:World}{x:Line}{sa da:Option Addr}{cs cd sb so db dO:Nat}(h:LAt w x sa da cs cd sb so db dO)(h0:0<x.D.length):db<w.heap.size:=World.block_lt_of_cell? w _ (h.PD 0 h0)
theorem LAt.z4k{B:Nat}{w w':World}{x:Line}{sa da:Option Addr}{cs cd sb so db dO:Nat}(h:LAt w x sa da cs cd sb so db dO)(hb:Below B w w')(hS:0<x.S.length->sb<B)(hD:0<x.D.length->db<B):LAt w' x sa da cs cd sb so db dO:=
 ⟨h.hls,h.hld,h.hsa,h.hda,h.ncs,h.ncd,h.PS.z4k hb hS,h.PD.z4k hb hD⟩
theorem hide{p:Prop}(h:p):Hid p:=h
theorem z0s(w:World)(o:Obj):Below w.heap.size w (w.alloc o):=znw _ o
theorem z2E{w w':World}{o:Obj}(h:Below (w.alloc o).heap.size (w.alloc o) w'):Below w.heap.size w w':=
 (z0s w o).trans (h.mono (by simp))
theorem z1Q{w w1 w2:World}(h:Below w.heap.size w w1)(k:Below w1.heap.size w1 w2):Below w.heap.size w w2:=zbt h k
theorem q5C{W w1:World}(hb:Below W.heap.size W w1):(∀ b o,b<W.heap.size->w1.cell? ⟨b,o,none⟩=W.cell? ⟨b,o,none⟩)/\(∀ b o,b<W.heap.size->w1.frozen? ⟨b,o,none⟩=W.frozen? ⟨b,o,none⟩):=
 ⟨fun b o h=>hb.cell (p:=⟨b,o,none⟩) h,fun b o h=>hb.frozen (p:=⟨b,o,none⟩) h⟩
theorem j6N{a b:ByteArray}(h:a≠b):(a.toList == b.toList)=false:=by
 rw[ByteArray.toList_eq,ByteArray.toList_eq]
 simpa using fun h2:a.data.toList=b.data.toList=>h (WideShapes.bytes_inj h2)
def nonneg(l:List Int):Bool:=l.all fun d=>decide (0<=d)
theorem q1L{l:List Int}{k:Nat}(h:nonneg (l.take k)=true)(hl:k<l.length)(hd:0<=l.getD k 0):nonneg (l.take (k+1))=true:=by
 rw[List.take_succ_eq_append_getElem hl]
 simp[List.getD,hl]at hd
 unfold nonneg at *;rw[List.all_append,h]
 simp[hd]
theorem q3Y{l:List Int}{k:Nat}(hl:k<l.length)(hd:l.getD k 0<0):nonneg l=false:=by
 simp[List.getD,hl]at hd
 simp only[nonneg,List.all_eq_false,decide_eq_true_eq];exact ⟨l[k],List.getElem_mem hl,by omega⟩
def z0W(x:Line):Bool:=decide (x.D.length=x.S.length) && decide (x.S.length<=400) && nonneg x.D && decide (0<=x.g) && decide (x.g<=x.S.length)
def z4a(x:Line):Int:=if z0W x=false then 2 else if x.cl=true then 11 else 0
def z6h(x:Line)(due:Int):Int:=if due<0 then 2 else if z4a x≠0 then z4a x else if 400<=x.S.length then 6 else 0
def z4W(x:Line)(s:ByteArray)(due:Int):Line:=if z6h x due=0 then ⟨x.S ++ [s],x.D ++ [due],x.g,x.cl⟩ else x
def z4r(x:Line)(k:Int)(s:ByteArray)(said now:Int):Int:=
 if z4a x≠0 then z4a x else if k≠x.g+1 then 10 else if said<k∨(x.S.length:Int)<k∨x.S.getD (k - 1).toNat ByteArray.empty≠s then 9
 else if x.D.getD (k - 1).toNat 0<=now then 12 else 0
def z5l(x:Line)(k:Int)(s:ByteArray)(said now:Int):Line:=if z4r x k s said now=0 then ⟨x.S,x.D,k,x.cl⟩ else x
def z5d(x:Line)(k time got:Int):Int:=
 if z4a x≠0 then z4a x else if k<1∨(x.S.length:Int)<k then 4 else if k<=got then 5 else if time<x.D.getD (k - 1).toNat 0 then 13 else 0
def z6X(x:Line)(k time got:Int):Line:=if z5d x k time got=0 then ⟨x.S,x.D,x.g,true⟩ else x
theorem z7d{x:Line}(h:z0W x=true):x.D.length=x.S.length/\x.S.length<=400/\0<=x.g/\x.g<=x.S.length:=by
 simp[z0W]at h
 omega
theorem z7q{x:Line}(h:z4a x=0):z0W x=true/\x.cl=false:=by
 unfold z4a at h
 split at h
 ·omega
 split at h
 ·omega
 exact ⟨by simpa using ‹¬ z0W x=false›,by simpa using ‹¬ x.cl=true›⟩
theorem q1A(x:Line) :
  (x.D.length≠x.S.length/\z0W x=false)∨(x.D.length=x.S.length/\400<x.S.length/\z0W x=false) ∨
  (x.D.length=x.S.length/\x.S.length<=400/\(nonneg x.D=false->z0W x=false)/\(nonneg x.D=true->z0W x=(decide (0<=x.g) && decide (x.g<=x.S.length)))):=by
 by_cases h1:x.D.length=x.S.length
 ·right
  by_cases h2:x.S.length<=400
  ·right
   exact ⟨h1,h2,fun h3=>by simp[z0W,h3],fun h3=>by simp[z0W,h1,h2,h3]⟩
  ·left
   exact ⟨h1,by omega,by simp[z0W,h2]⟩
 ·left
  exact ⟨h1,by simp[z0W,h1]⟩
theorem z0l(x:Line)(sa da:Option Addr)(cs cd sb so db dO:Nat)(w:World)(L:LAt w x sa da cs cd sb so db dO) :
  Calls prog 145 #[.agg #[.slice sa x.S.length cs,.slice da x.D.length cd,.int .i64 x.g,.bool x.cl]] w fun e w'=>e=.returned (.bool (z0W x))/\Below w.heap.size w w':=by
 obtain ⟨S,D,g,cl⟩:=x;have hcs:=q1A ⟨S,D,g,cl⟩;obtain ⟨hls,hld,hsa,hda,-,-,PS,PD⟩:=L;have HB0:Hid (∀ o,Below w.heap.size w (w.alloc o)):=fun o=>z0s w o;have HDA:Hid (0<D.length->da=some ⟨db,dO,none⟩):=hda;have HPD:Hid (z0Z w db dO D):=PD;clear hsa hda PS PD;dsimp only at *;generalize z0W ⟨S,D,g,cl⟩=G at *
 rcases hcs with ⟨h1,rfl⟩ | ⟨h1,h2,rfl⟩ | ⟨h1,h2,h3,h4⟩
 ·have hne:((D.length:Int) != (S.length:Int))=true:=by simp;omega
  clear h1
  go_enter func145,ntmps145
  go_wp2;go_ret;exact ⟨rfl,HB0.out _⟩
 ·have hne:((D.length:Int) != (S.length:Int))=false:=by simp;omega
  clear h1
  go_enter func145,ntmps145
  go_wp2;go_ret;exact ⟨rfl,HB0.out _⟩
 ·have hne:((D.length:Int) != (S.length:Int))=false:=by simp;omega
  have hd2:D.length<=400:=by omega
  have HG:Hid ((nonneg D=false->G=false)/\(nonneg D=true->G=(decide (0<=g) && decide (g<=S.length)))):=⟨h3,h4⟩;clear h1 h3 h4
  go_enter func145,ntmps145
  go_wp2
  go_loop [21] (fun i=>∃ (k:Nat),k<=D.length/\i=.int .i64 (k:Int)/\Hid (nonneg (D.take k)=true)) (fun i=>D.length - (intOf i).toNat)
  case atStart=>exact ⟨0,Nat.zero_le _,rfl,by simp[Hid,nonneg]⟩
  case round =>
   obtain ⟨k,hk,rfl,HR⟩:=hrel
   by_cases hlt:k<D.length
   ·have hcell:=(HPD.out.later (HB0.out (.cells #[.slice sa S.length cs,.slice da D.length cd,.int .i64 g,.bool cl] 47))) k hlt;obtain ⟨y,hy⟩:∃ y,D.getD k 0=y:=⟨_,rfl⟩;rw[hy]at hcell;have HY:Hid (D.getD k 0=y):=hy;clear hy;have e:=HDA.out (by omega)
    subst e
    by_cases hy0:y<0
    ·go_wp2;go_ret;exact ⟨by rw[HG.out.1 (q3Y hlt (by rw[HY.out];exact hy0))];rfl,HB0.out _⟩
    ·go_wp2
     go_round
     case rel=>exact ⟨k+1,by omega,by go_num,q1L HR.out hlt (by rw[HY.out];omega)⟩
     case measure=>simp[intOf];omega
   ·have hG:=HG.out.2 (by have:=HR.out;rwa [List.take_of_length_le (by omega)]at this)
    by_cases hg0:0<=g
    ·by_cases hg1:g<=(S.length:Int)
     ·have HF:Hid (G=true):=by show _=_;rw[hG];simp[hg0,hg1]
      clear hG;go_wp2;go_ret;exact ⟨by rw[HF.out];rfl,HB0.out _⟩
     ·have HF:Hid (G=false):=by show _=_;rw[hG];simp[hg1]
      clear hG;go_wp2;go_ret;exact ⟨by rw[HF.out];rfl,HB0.out _⟩
    ·have HF:Hid (G=false):=by show _=_;rw[hG];simp[hg0]
     clear hG;go_wp2;go_ret;exact ⟨by rw[HF.out];rfl,HB0.out _⟩
theorem q1G(x:Line)(sa da:Option Addr)(cs cd sb so db dO:Nat)(w:World)(L:LAt w x sa da cs cd sb so db dO) :
  Calls prog 129 #[.agg #[.slice sa x.S.length cs,.slice da x.D.length cd,.int .i64 x.g,.bool x.cl]] w fun e w'=>e=.returned (.int .i64 (z4a x))/\Below w.heap.size w w':=by
 have hg:=z0l x sa da cs cd sb so db dO _ (L.later (z0s w (.cells #[.slice sa x.S.length cs,.slice da x.D.length cd,.int .i64 x.g,.bool x.cl] 47)));clear L;obtain ⟨S,D,g,cl⟩:=x;unfold z4a;dsimp only at *;generalize z0W ⟨S,D,g,cl⟩=G at *;cases G <;> cases cl
 all_goals go_enter func129,ntmps129
 all_goals go_wp2_with (go_at_call 145;refine hg.mono ?_;rintro e w1 ⟨rfl,hb⟩;obtain ⟨hc,hf⟩:=q5C hb;have HB1:Hid (Below w.heap.size w w1):=z2E hb;clear hb)
 all_goals go_ret
 all_goals exact ⟨rfl,HB1.out⟩
theorem q7f(x:Line)(sa da:Option Addr)(cs cd:Nat)(k:Int)(w:World) :
  Calls prog 130 #[.agg #[.slice sa x.S.length cs,.slice da x.D.length cd,.int .i64 x.g,.bool x.cl],.int .i64 k] w fun e w'=>e=.returned (.bool (decide (1<=k) && decide (k<=x.S.length)))/\Below w.heap.size w w':=by
 obtain ⟨S,D,g,cl⟩:=x;dsimp only at *
 by_cases h1:1<=k
 ·by_cases h2:k<=(S.length:Int)
  ·rw[show (decide (1<=k) && decide (k<=(S.length:Int)))=true by simp[h1,h2]]
   go_enter func130,ntmps130
   go_wp2;go_ret;exact ⟨rfl,z0s _ _⟩
  ·rw[show (decide (1<=k) && decide (k<=(S.length:Int)))=false by simp[h2]]
   go_enter func130,ntmps130
   go_wp2;go_ret;exact ⟨rfl,z0s _ _⟩
 ·rw[show (decide (1<=k) && decide (k<=(S.length:Int)))=false by simp[h1]]
  go_enter func130,ntmps130
  go_wp2;go_ret;exact ⟨rfl,z0s _ _⟩
end Ln
namespace Cd
open Go.RowKit
theorem info5:(prog.info? 5).map (fun i=>(i.zero,i.size,i.bytes))=some (some (.int .u8 0),1,1):=by kernel_rfl
def be(n:Int):Nat->List Int
 | 0=>[]
 | m+1=>(n / 2 ^ (8 * m)) % 256 :: be n m
theorem z1I(n:Int)(m:Nat):(be n m).length=m:=by
 induction m with
 | zero=>rfl
 | succ m ih=>simp[be,ih]
def Row(w:World)(B:Nat)(v:Value)(xs:List Int):Prop:=w.ownsRow B 5 1 v xs.length (xs.map (Value.int .u8))
def At(w:World)(v v':Value):Prop:=v'.ownBlock=v.ownBlock∨∃ k,v'.ownBlock=some k/\w.heap.size<=k
theorem q1k{w w1 w2:World}{v v1:Value}(h:w.grownBy w1 v.ownBlock)(ha:At w v v1)(k:w1.grownBy w2 v1.ownBlock):w.grownBy w2 v.ownBlock:=by
 refine ⟨k.os.trans h.os,k.tape.trans h.tape,k.output.trans h.output,Nat.le_trans h.size k.size,fun i hi hne=>?_⟩;rw[k.block i (Nat.lt_of_lt_of_le hi h.size) ?_,h.block i hi hne]
 rcases ha with e | ⟨j,e,hj⟩
 ·rw[e];exact hne
 ·rw[e];intro h;cases h;omega
theorem q4r(w:World)(r:Option Nat):w.grownBy w r:=⟨rfl,rfl,rfl,Nat.le_refl _,fun _ _ _=>rfl⟩
theorem At.trans{w w1:World}{v v1 v2:Value}(hs:w.heap.size<=w1.heap.size)(h:At w v v1)(k:At w1 v1 v2):At w v v2:=by
 rcases k with e | ⟨j,e,hj⟩
 ·rcases h with e1 | ⟨j,e1,hj⟩
  ·exact .inl (e.trans e1)
  ·exact .inr ⟨j,e.trans e1,hj⟩
 ·exact .inr ⟨j,e,Nat.le_trans hs hj⟩
theorem q1q{w w2:World}{o:Obj}{r:Option Nat}(k:(w.alloc o).grownBy w2 r):w.grownBy w2 r:=
 ⟨k.os,k.tape,k.output,Nat.le_trans (by simp) k.size,fun i hi hne=>(k.block i (by simp;omega) hne).trans (Below.heap_alloc _ _ _ hi)⟩
theorem z6Z(B:Nat)(v:Value)(xs:List Int)(n:Int)(wd:Nat)(w:World)(hown:Row w B v xs)(hwd:wd<=7)(hlen:xs.length+wd<=1000000)(hB:B<=w.heap.size) :
  Calls prog 162 #[v,.int .i64 n,.int .i64 wd] w fun e w'=>∃ v',e=.returned v'/\Row w' B v' (xs ++ be n wd)/\w.grownBy w' v.ownBlock/\At w v v':=by
 obtain ⟨i0,hi,hz0,hz1,hz2⟩:=info_parts info5
 go_enter func162,ntmps162
 go_wp2
 go_loopw [0,7] (fun u i wl=>∃ (m:Nat) (ys:List Int),m<=wd/\i=.int .i64 ((m:Int) - 1)/\Hid (ys ++ be n m=xs ++ be n wd)/\Row wl B u ys/\Hid (w.grownBy wl v.ownBlock/\At w v u)) (fun _ i _=>(intOf i+1).toNat)
 case atStart=>exact ⟨wd,xs,Nat.le_refl _,rfl,rfl,hown,q4r _ _,.inl rfl⟩
 case round =>
  obtain ⟨m,ys,hm,rfl,HE,hown2,HB⟩:=hrel;clear hown
  match m,HE with
  | 0,HE =>
   go_wp2;go_ret;have hE:=HE.out;simp only[be,List.append_nil]at hE;subst hE;exact ⟨_,rfl,hown2,HB.out.1,HB.out.2⟩
  | m+1,HE =>
   have hl:ys.length<=1000000:=by
    have h1:=congrArg List.length HE.out;simp only[List.length_append,z1I]at h1;omega
   have hsz:B<=wr.heap.size:=Nat.le_trans hB HB.out.1.size
   go_wp2_with (at_builtin;refine wpList_append_own_at _ rfl _ _ 232 rfl B 5 i0 (.int .u8 0) 1 1 underlying232 hi hz0 hz1 hz2 rfl (by decide) _ _ _ rfl (World.ownsRow.alloc hown2 _) ⟨wr.heap.size,0,none⟩ 1 1 [.int .u8 (n / 2 ^ (8 * m) % 256)] rfl rfl (cell_one_new _ _ _) (by intro u hu;simp at hu;subst hu;rfl) (by unfold maxLen;omega) (by omega) (by simp;omega) ?_;intro v' w1 hown' hgrow _ hat)
   have HO:Hid (Row w1 B v' (ys ++ [n / 2 ^ (8 * m) % 256])):=by simpa [Hid,Row] using hown'
   have HB1:Hid (w.grownBy w1 v.ownBlock/\At w v v'):=by
    refine ⟨q1k HB.out.1 HB.out.2 (q1q hgrow),HB.out.2.trans HB.out.1.size ?_⟩
    rcases hat with h | h
    ·exact .inl h
    ·exact .inr ⟨_,h,by simp⟩
   clear hown' hgrow hown2 hat;go_wp2;go_roundw
   case rel=>exact ⟨m,_,by omega,by go_num,by show _=_;rw[← HE.out];simp[be],HO.out,HB1⟩
   case measure=>simp[intOf]
theorem z5n(l:List Int):∀ last:Int,-1<=last->z0i last l=true->(l.length:Int)<=5 - last∨l=[]:=by
 induction l with
 | nil=>intro _ _ _;exact .inr rfl
 | cons x t ih =>
  intro last hl h;simp only[z0i,Bool.and_eq_true,decide_eq_true_eq,isV]at h;obtain ⟨⟨h1,h2⟩,h3⟩:=h
  rcases ih x (by omega) h3 with h4 | h4
  ·left;simp only[List.length_cons];omega
  ·subst h4;left;simp;omega
theorem z4t(l:List (Int×Int)):∀ last:Int,-1<=last->z0e last l=true->(l.length:Int)<=5 - last∨l=[]:=by
 induction l with
 | nil=>intro _ _ _;exact .inr rfl
 | cons x t ih =>
  intro last hl h;simp only[z0e,Bool.and_eq_true,decide_eq_true_eq,isV]at h;obtain ⟨⟨⟨⟨h1,h2⟩,_⟩,_⟩,h3⟩:=h
  rcases ih x.1 (by omega) h3 with h4 | h4
  ·left;simp only[List.length_cons];omega
  ·subst h4;left;simp;omega
theorem q4Y{k i v n:Int}{S:List (Int×Int)}{D:List Int}(h:z0q k i v n S D=0):z0e (-1) S=true/\z0i (-1) D=true/\S.length<=6/\D.length<=6:=by
 have h0:z0e (-1) S=true/\z0i (-1) D=true:=by
  rcases z7B k i v n S D with h | h | ⟨_,_,h | h | ⟨_,_,h | h | h | ⟨_,h | h | h | h⟩⟩⟩ <;> simp_all
 refine ⟨h0.1,h0.2,?_,?_⟩
 ·rcases z4t S (-1) (by omega) h0.1 with h | h
  ·omega
  ·subst h;simp
 ·rcases z5n D (-1) (by omega) h0.2 with h | h
  ·omega
  ·subst h;simp
def j5M(w:World)(b:Nat)(k i v n:Int)(s d:Value):Prop:=
 w.cell? ⟨b,0,none⟩=some (.int .i64 k)/\w.cell? ⟨b,1,none⟩=some (.int .i64 i)/\w.cell? ⟨b,2,none⟩=some (.int .i64 v) /\
 w.cell? ⟨b,3,none⟩=some (.int .i64 n)/\w.cell? ⟨b,4,none⟩=some s/\w.cell? ⟨b,5,none⟩=some d
theorem q2E(w:World)(k i v n:Int)(s d:Value):j5M (w.alloc (.cells #[.int .i64 k,.int .i64 i,.int .i64 v,.int .i64 n,s,d] 70)) w.heap.size k i v n s d:=by
 unfold j5M
 simp[World.cell?_alloc_at]
theorem j5M.later{w w':World}{B b:Nat}{k i v n:Int}{s d:Value}(h:j5M w b k i v n s d)(hb:Below B w w')(hB:b<B):j5M w' b k i v n s d:=by
 obtain ⟨h0,h1,h2,h3,h4,h5⟩:=h;exact ⟨(hb.cell (p:=⟨b,0,none⟩) hB).trans h0,(hb.cell (p:=⟨b,1,none⟩) hB).trans h1,(hb.cell (p:=⟨b,2,none⟩) hB).trans h2,(hb.cell (p:=⟨b,3,none⟩) hB).trans h3,(hb.cell (p:=⟨b,4,none⟩) hB).trans h4,(hb.cell (p:=⟨b,5,none⟩) hB).trans h5⟩
theorem Row.below{W w w':World}{B:Nat}{v:Value}{xs:List Int}(h:Row w B v xs)(hb:Below B W w)(hB:B<=W.heap.size)(hg:w.grownBy w' v.ownBlock):Below B W w':=
 hb.grown hg (Nat.le_trans hB hb.size) (fun k hk=>(World.ownsRow.lt h k hk).1)
theorem q4h(k i v n:Int)(S:List (Int×Int))(D:List Int)(sa da:Option Addr)(cs cd sb so db dO:Nat)(w:World)
  (hls:S.length<=maxLen) (hld:D.length<=maxLen) (hsa:0<S.length->sa=some ⟨sb,so,none⟩) (hda:0<D.length->da=some ⟨db,dO,none⟩) (PS:z4S w sb so S) (PD:z0Z w db dO D)
  (hg:z0q k i v n S D≠0) :
  Calls prog 122 #[.agg #[.int .i64 k,.int .i64 i,.int .i64 v,.int .i64 n,.slice sa S.length cs,.slice da D.length cd]] w fun e w'=>e=.returned (.tuple #[.string ⟨#[]⟩,.int .i64 (z0q k i v n S D)])/\Below w.heap.size w w':=by
 have hgood:=z0l k i v n S D sa da cs cd sb so db dO _ hls hld hsa hda (PS.later (z0s w (.cells #[.int .i64 k,.int .i64 i,.int .i64 v,.int .i64 n,.slice sa S.length cs,.slice da D.length cd] 70))) (PD.later (z0s _ _));generalize z0q k i v n S D=G at *;have hG:(G != 0)=true:=by simpa using hg
 have HG:=hgood;clear hgood PS PD hls hld hsa hda hg
 go_enter func122,ntmps122
 go_wp2_with (go_at_call 34;refine HG.mono ?_;rintro e w1 ⟨rfl,hb⟩)
 go_ret2;exact ⟨rfl,z2E hb⟩
def z9E(p:Int×Int):List Int:=be p.1 1 ++ be p.2 7
def q4v(k i v n:Int)(ls:Nat):List Int:=be k 1 ++ be i 6 ++ be v 1 ++ be n 7 ++ be ls 1
def enc(k i v n:Int)(S:List (Int×Int))(D:List Int):List Int:=
 q4v k i v n S.length ++ S.flatMap z9E ++ be D.length 1 ++ D.flatMap (be · 1)
theorem q1Y(p:Int×Int):(z9E p).length=8:=by simp[z9E,z1I]
theorem z4g(S:List (Int×Int)):(S.flatMap z9E).length=8 * S.length:=by
 induction S with
 | nil=>rfl
 | cons a t ih=>rw[List.flatMap_cons,List.length_append,ih,q1Y,List.length_cons];omega
theorem z6n(D:List Int):(D.flatMap (be · 1)).length=D.length:=by
 induction D with
 | nil=>rfl
 | cons a t ih=>rw[List.flatMap_cons,List.length_append,ih,z1I,List.length_cons];omega
theorem z2Y(k i v n:Int)(ls:Nat):(q4v k i v n ls).length=16:=by simp[q4v,z1I]
theorem q5w(k i v n:Int)(S:List (Int×Int))(D:List Int):(enc k i v n S D).length=17+8 * S.length+D.length:=by
 simp only[enc,List.length_append,z2Y,z4g,z6n,z1I];omega
theorem q0S{α:Type}(f:α->List Int)(l:List α)(d:α)(m:Nat)(h:m<l.length):(l.take (m+1)).flatMap f=(l.take m).flatMap f ++ f (l.getD m d):=by
 rw[List.take_succ_eq_append_getElem h,List.flatMap_append,List.flatMap_singleton]
 simp[List.getD,h]
theorem take_len{α:Type}(l:List α)(m:Nat):(l.take m).length<=l.length:=by simp;omega
theorem Row.keeps{w w':World}{B:Nat}{v:Value}{xs:List Int}{o:Obj}(h:Row w B v xs)(hg:(w.alloc o).grownBy w' v.ownBlock):w'.heap[w.heap.size]?=(w.alloc o).heap[w.heap.size]?:=
 hg.block _ (by simp) (fun e=>by have:=(World.ownsRow.lt h _ e.symm).2;omega)
theorem cell_of_heap{w w':World}{b:Nat}(h:w'.heap[b]?=w.heap[b]?)(o:Nat):w'.cell? ⟨b,o,none⟩=w.cell? ⟨b,o,none⟩:=World.cell?_of_block (w:=w) (a:=⟨b,o,none⟩) h
theorem Row.conv{w:World}{B:Nat}{v:Value}{E:List Int}(h:Row w B v E):(convert 232 9 v).run prog w=.ok (.string (strOfNums E)) w:=by
 rcases h.2 with ⟨rfl,h0⟩ | ⟨g,cap,cur,rfl,hb,hh,hn,hm,hs,ht⟩
 ·have:E=[]:=List.eq_nil_of_length_eq_zero h0;subst this;exact run_convert_bytes_nil (P:=prog) w 232 5 underlying232 underlying5 0 0 9 underlying9
 ·refine run_convert_bytes_arg (P:=prog) w 232 5 underlying232 underlying5 g 0 E.length cap E rfl (fun j hj=>?_) 9 underlying9;have h':w.ownsRow B 5 1 (.slice (some ⟨g,0,none⟩) E.length cap) E.length (E.map (Value.int .u8)):=h;rw[Nat.zero_add,h'.cellAt j (by omega)]
  simp[List.getD,hj]
theorem z4S.z4k{w w':World}{B b off:Nat}{l:List (Int×Int)}(h:z4S w b off l)(hb:Below B w w')(hB:0<l.length->b<B):z4S w' b off l:=fun i hi =>
 ⟨(hb.cell (p:=⟨b,off+i * 2,none⟩) (hB (by omega))).trans (h i hi).1,(hb.cell (p:=⟨b,off+i * 2+1,none⟩) (hB (by omega))).trans (h i hi).2⟩
theorem z0Z.z4k{w w':World}{B b off:Nat}{l:List Int}(h:z0Z w b off l)(hb:Below B w w')(hB:0<l.length->b<B):z0Z w' b off l:=fun i hi =>
 (hb.cell (p:=⟨b,off+i,none⟩) (hB (by omega))).trans (h i hi)
theorem z4S.lt{w:World}{b off:Nat}{l:List (Int×Int)}(h:z4S w b off l)(hl:0<l.length):b<w.heap.size:=World.block_lt_of_cell? w _ (h 0 hl).1
theorem z0Z.lt{w:World}{b off:Nat}{l:List Int}(h:z0Z w b off l)(hl:0<l.length):b<w.heap.size:=World.block_lt_of_cell? w _ (h 0 hl)
theorem z4m(B:Nat)(v:Value)(xs:List Int)(n wi:Int)(wd:Nat)(w:World)(hwi:wi=(wd:Int))(hown:Row w B v xs)(hwd:wd<=7)(hlen:xs.length+wd<=1000000)(hB:B<=w.heap.size) :
  Calls prog 162 #[v,.int .i64 n,.int .i64 wi] w fun e w'=>∃ v',e=.returned v'/\Row w' B v' (xs ++ be n wd)/\w.grownBy w' v.ownBlock/\At w v v':=by
 subst hwi;exact z6Z B v xs n wd w hown hwd hlen hB
theorem q9f(k i v n:Int)(S:List (Int×Int))(D:List Int)(sa da:Option Addr)(cs cd sb so db dO:Nat)(w:World)
  (hls:S.length<=maxLen) (hld:D.length<=maxLen) (hsa:0<S.length->sa=some ⟨sb,so,none⟩) (hda:0<D.length->da=some ⟨db,dO,none⟩) (PS:z4S w sb so S) (PD:z0Z w db dO D)
  (hg:z0q k i v n S D=0) :
  Calls prog 122 #[.agg #[.int .i64 k,.int .i64 i,.int .i64 v,.int .i64 n,.slice sa S.length cs,.slice da D.length cd]] w fun e w'=>e=.returned (.tuple #[.string (strOfNums (enc k i v n S D)),.int .i64 0])/\Below w.heap.size w w':=by
 obtain ⟨_,_,hS6,hD6⟩:=q4Y hg;have hsb:=fun h=>PS.lt h;have hdb:=fun h=>PD.lt h;have hgood:=z0l k i v n S D sa da cs cd sb so db dO _ hls hld hsa hda (PS.later (z0s w (.cells #[.int .i64 k,.int .i64 i,.int .i64 v,.int .i64 n,.slice sa S.length cs,.slice da D.length cd] 70))) (PD.later (z0s _ _));rw[hg]at hgood;have HSB:Hid (0<S.length->sb<w.heap.size+1):=fun h=>Nat.lt_succ_of_lt (hsb h);have HDB:Hid (0<D.length->db<w.heap.size+1):=fun h=>Nat.lt_succ_of_lt (hdb h);have HSA:Hid (0<S.length->sa=some ⟨sb,so,none⟩):=hsa;have HDA:Hid (0<D.length->da=some ⟨db,dO,none⟩):=hda;clear hls hld hsa hda hg hsb hdb
 go_enter func122,ntmps122
 go_wp2_with fail
 refine hgood.mono ?_;rintro e w1 ⟨rfl,hb1⟩;clear hgood;have PK1:j5M w1 w.heap.size k i v n (.slice sa S.length cs) (.slice da D.length cd):=(q2E _ _ _ _ _ _ _).later hb1 (by simp)
 have HB1:Hid (Below w.heap.size w w1):=z2E hb1;have PS1:=PS.later HB1.out;have PD1:=PD.later HB1.out;have hz1:w.heap.size+1<=w1.heap.size:=(by have:=hb1.size;simpa using this)
 have hr1:Row w1 (w.heap.size+1) (.slice none 0 0) []:=World.ownsRow_nil _ _ _ _;clear hb1 PS PD;obtain ⟨c0,c1,c2,c3,c4,c5⟩:=id PK1
 go_wp2_with fail
 refine (z4m (w.heap.size+1) _ [] _ 1 1 _ rfl hr1 (by omega) (by simp) hz1).mono ?_
 rintro e w2 ⟨v2,rfl,hr2,hg2,_⟩;have HB2:Hid (Below (w.heap.size+1) w1 w2):=hr1.below (Below.refl _ _) hz1 hg2;clear c0 c1 c2 c3 c4 c5 hg2 hr1;have PK2:=PK1.later HB2.out (Nat.lt_succ_self _);obtain ⟨c0,c1,c2,c3,c4,c5⟩:=id PK2;have hz2:w.heap.size+1<=w2.heap.size:=Nat.le_trans hz1 HB2.out.size;rw[List.nil_append]at hr2
 go_wp2_with fail
 refine (z4m (w.heap.size+1) _ _ _ 6 6 _ rfl hr2 (by omega) (by simp[z1I]) hz2).mono ?_
 rintro e w3 ⟨v3,rfl,hr3,hg3,_⟩;have HB3:Hid (Below (w.heap.size+1) w1 w3):=hr2.below HB2.out hz1 hg3;clear c0 c1 c2 c3 c4 c5 hg3 hr2 HB2 PK2;have PK3:=PK1.later HB3.out (Nat.lt_succ_self _);obtain ⟨c0,c1,c2,c3,c4,c5⟩:=id PK3;have hz3:w.heap.size+1<=w3.heap.size:=Nat.le_trans hz1 HB3.out.size
 go_wp2_with fail
 refine (z4m (w.heap.size+1) _ _ _ 1 1 _ rfl hr3 (by omega) (by simp[z1I]) hz3).mono ?_
 rintro e w4 ⟨v4,rfl,hr4,hg4,_⟩;have HB4:Hid (Below (w.heap.size+1) w1 w4):=hr3.below HB3.out hz1 hg4;clear c0 c1 c2 c3 c4 c5 hg4 hr3 HB3 PK3;have PK4:=PK1.later HB4.out (Nat.lt_succ_self _);obtain ⟨c0,c1,c2,c3,c4,c5⟩:=id PK4;have hz4:w.heap.size+1<=w4.heap.size:=Nat.le_trans hz1 HB4.out.size
 go_wp2_with fail
 refine (z4m (w.heap.size+1) _ _ _ 7 7 _ rfl hr4 (by omega) (by simp[z1I]) hz4).mono ?_
 rintro e w5 ⟨v5,rfl,hr5,hg5,_⟩;have HB5:Hid (Below (w.heap.size+1) w1 w5):=hr4.below HB4.out hz1 hg5;clear c0 c1 c2 c3 c4 c5 hg5 hr4 HB4 PK4;have PK5:=PK1.later HB5.out (Nat.lt_succ_self _);obtain ⟨c0,c1,c2,c3,c4,c5⟩:=id PK5;have hz5:w.heap.size+1<=w5.heap.size:=Nat.le_trans hz1 HB5.out.size
 go_wp2_with fail
 refine (z4m (w.heap.size+1) _ _ _ 1 1 _ rfl hr5 (by omega) (by simp[z1I]) hz5).mono ?_
 rintro e w6 ⟨v6,rfl,hr6,hg6,_⟩;have HB6:Hid (Below (w.heap.size+1) w1 w6):=hr5.below HB5.out hz1 hg6;clear c0 c1 c2 c3 c4 c5 hg6 hr5 HB5 PK5;have PK6:=PK1.later HB6.out (Nat.lt_succ_self _);obtain ⟨c0,c1,c2,c3,c4,c5⟩:=id PK6;clear hz2 hz3 hz4 hz5;have HR6:Hid (Row w6 (w.heap.size+1) v6 (q4v k i v n S.length)):=hr6;clear hr6
 go_wp2_with fail
 clear c0 c1 c2 c3 c4 c5 PK6
 go_loopw [5,39] (fun u j wl=>∃ m:Nat,m<=S.length/\j=.int .i64 m/\Hid (Row wl (w.heap.size+1) u (q4v k i v n S.length ++ (S.take m).flatMap z9E))/\Hid (Below (w.heap.size+1) w1 wl)) (fun _ j _=>S.length - (intOf j).toNat)
 case atStart=>exact ⟨0,Nat.zero_le _,rfl,by simpa using HR6,HB6⟩
 case round =>
  obtain ⟨m,hm,rfl,HR,HB⟩:=hrel;clear HR6 HB6;have hzr:w.heap.size+1<=wr.heap.size:=Nat.le_trans hz1 HB.out.size;have hlt8:((S.take m).flatMap z9E).length<=48:=by rw[z4g];have:=take_len S m;omega
  by_cases hlt:m<S.length
  ·have hcell:=PS1.z4k HB.out HSB.out m hlt;have htk:=q0S z9E S (0,0) m hlt;obtain ⟨y,hy⟩:∃ y,S.getD m (0,0)=y:=⟨_,rfl⟩;rw[hy]at hcell htk;obtain ⟨y,z⟩:=y;obtain ⟨hc0,hc1⟩:=hcell;dsimp only at hc0 hc1;have e:=HSA.out (by omega)
   subst e;have HT:Hid _:=htk;clear htk hy
   go_wp2_with fail
   have hrA:Row (wr.alloc (Obj.cells #[Value.int IntKind.i64 y,Value.int IntKind.i64 z] 68)) (w.heap.size+1) u5 (q4v k i v n S.length ++ (S.take m).flatMap z9E):=World.ownsRow.alloc HR.out _;have HBA:Hid (Below (w.heap.size+1) w1 (wr.alloc (Obj.cells #[Value.int IntKind.i64 y,Value.int IntKind.i64 z] 68))):=HB.out.alloc hzr _;refine (z4m (w.heap.size+1) _ _ _ 1 1 _ rfl hrA (by omega) (by simp only[List.length_append,z2Y];omega) (by simp;omega)).mono ?_
   rintro e wa ⟨va,rfl,hra,hga,_⟩;have hk:=HR.out.keeps hga;have hd1:wa.cell? ⟨wr.heap.size,1,none⟩=some (.int .i64 z):=by rw[cell_of_heap hk];simp[World.cell?_alloc_at]
   have HBa:Hid (Below (w.heap.size+1) w1 wa):=hrA.below HBA.out hz1 hga;have hza:w.heap.size+1<=wa.heap.size:=Nat.le_trans hz1 HBa.out.size;clear hk hga hrA HBA hc0 hc1
   go_wp2_with fail
   refine (z4m (w.heap.size+1) _ _ _ 7 7 _ rfl hra (by omega) (by simp only[List.length_append,z2Y,z1I];omega) hza).mono ?_
   rintro e wb ⟨vb,rfl,hrb,hgb,_⟩;have HBb:Hid (Below (w.heap.size+1) w1 wb):=hra.below HBa.out hz1 hgb
   have HRb:Hid (Row wb (w.heap.size+1) vb (q4v k i v n S.length ++ (S.take (m+1)).flatMap z9E)):=by
    show Row _ _ _ _
    rw[HT.out,z9E,← List.append_assoc,← List.append_assoc];exact hrb
   clear hra hrb hgb hd1;go_wp2;go_roundw
   case rel=>exact ⟨m+1,by omega,by go_num,HRb,HBb⟩
   case measure=>simp[intOf];omega
  ·have hmS:m=S.length:=by omega
   subst hmS;have hr7:Row wr (w.heap.size+1) u5 (q4v k i v n S.length ++ S.flatMap z9E):=by have:=HR.out;rwa [List.take_length]at this
   have PK7:=PK1.later HB.out (Nat.lt_succ_self _);obtain ⟨c0,c1,c2,c3,c4,c5⟩:=id PK7;have hl8:(S.flatMap z9E).length<=48:=by rw[z4g];omega
   clear hlt8 HR PK7
   go_wp2_with fail
   refine (z4m (w.heap.size+1) _ _ _ 1 1 _ rfl hr7 (by omega) (by simp only[List.length_append,z2Y];omega) hzr).mono ?_
   rintro e w8 ⟨v8,rfl,hr8,hg8,_⟩;have HB8:Hid (Below (w.heap.size+1) w1 w8):=hr7.below HB.out hz1 hg8;clear c0 c1 c2 c3 c4 c5 hg8 hr7 hlt hm HB;have PK8:=PK1.later HB8.out (Nat.lt_succ_self _);obtain ⟨c0,c1,c2,c3,c4,c5⟩:=id PK8;have HR8:Hid (Row w8 (w.heap.size+1) v8 (q4v k i v n S.length ++ S.flatMap z9E ++ be D.length 1)):=hr8;clear hr8
   go_wp2_with fail
   clear c0 c1 c2 c3 c4 c5 PK8
   go_loopw [5,60] (fun u j wl=>∃ m:Nat,m<=D.length/\j=.int .i64 m/\Hid (Row wl (w.heap.size+1) u (q4v k i v n S.length ++ S.flatMap z9E ++ be D.length 1 ++ (D.take m).flatMap (be · 1)))/\Hid (Below (w.heap.size+1) w1 wl)) (fun _ j _=>D.length - (intOf j).toNat)
   case atStart=>exact ⟨0,Nat.zero_le _,rfl,by simpa using HR8,HB8⟩
   case round =>
    obtain ⟨m,hm,rfl,HR,HB⟩:=hrel;clear HR8 HB8;have hzr:w.heap.size+1<=wr.heap.size:=Nat.le_trans hz1 HB.out.size;have hltm:((D.take m).flatMap (be · 1)).length<=6:=by rw[z6n];have:=take_len D m;omega
    by_cases hlt:m<D.length
    ·have hcell:=PD1.z4k HB.out HDB.out m hlt;have htk:=q0S (be · 1) D 0 m hlt;obtain ⟨y,hy⟩:∃ y,D.getD m 0=y:=⟨_,rfl⟩;rw[hy]at hcell htk;have e:=HDA.out (by omega)
     subst e;have HT:Hid _:=htk;clear htk hy
     go_wp2_with fail
     refine (z4m (w.heap.size+1) _ _ _ 1 1 _ rfl HR.out (by omega) (by simp only[List.length_append,z2Y,z1I];omega) hzr).mono ?_
     rintro e wb ⟨vb,rfl,hrb,hgb,_⟩;have HBb:Hid (Below (w.heap.size+1) w1 wb):=HR.out.below HB.out hz1 hgb
     have HRb:Hid (Row wb (w.heap.size+1) vb (q4v k i v n S.length ++ S.flatMap z9E ++ be D.length 1 ++ (D.take (m+1)).flatMap (be · 1))):=by
      show Row _ _ _ _
      rw[HT.out,← List.append_assoc];exact hrb
     clear hrb hgb hcell;go_wp2;go_roundw
     case rel=>exact ⟨m+1,by omega,by go_num,HRb,HBb⟩
     case measure=>simp[intOf];omega
    ·have hmD:m=D.length:=by omega
     subst hmD;have hr9:Row wr (w.heap.size+1) u5 (enc k i v n S D):=by have:=HR.out;rwa [List.take_length]at this
     have HF:Hid (Below w.heap.size w wr):=HB1.out.trans (HB.out.mono (Nat.le_succ _));have hcv:=hr9.conv
     clear hr9 HR HB;go_wp2;go_ret2;exact ⟨rfl,HF.out⟩
end Cd
section
def z1s(f0 f1 f2 f3 bo wa bu:Int):Bool:=decide ((0<=f0/\f0<=400000)/\(0<=f1/\f1<=400000)/\(0<=f2/\f2<=400000)/\(0<=f3/\f3<=400000)/\(0<=bo/\bo<=400000)/\(0<=wa/\wa<=400000)/\(0<=bu/\bu<=400000)/\f0+f1+f2+f3+bo+wa+bu=400000)
structure Bk where
 f0:Int
 f1:Int
 f2:Int
 f3:Int
 bo:Int
 wa:Int
 bu:Int
def Bk.good(b:Bk):Bool:=z1s b.f0 b.f1 b.f2 b.f3 b.bo b.wa b.bu
def Bk.get(b:Bk):Nat->Int
 | 0=>b.f0
 | 1=>b.f1
 | 2=>b.f2
 | 3=>b.f3
 | 4=>b.bo
 | 5=>b.wa
 | _=>b.bu
def Bk.put(b:Bk)(k:Nat)(x:Int):Bk:=
 match k with
 | 0=>{ b with f0:=x }
 | 1=>{ b with f1:=x }
 | 2=>{ b with f2:=x }
 | 3=>{ b with f3:=x }
 | 4=>{ b with bo:=x }
 | 5=>{ b with wa:=x }
 | _=>{ b with bu:=x }
def mv(b:Bk)(f t:Nat)(n:Int):Bk×Int:=
 if b.good=false∨¬ (0<=n/\n<=1125899906842624) then (b,2) else if b.get f<n then (b,7) else ((b.put f (b.get f - n)).put t (b.get t+n),0)
def z2s(b:Bk)(d n:Int):Bk×Int:=if 0<=d/\d<4 then mv b d.toNat 4 n else (b,4)
def z0U(b:Bk)(n:Int):Bk×Int:=mv b 4 5 n
def z7W(b:Bk)(d n:Int):Bk×Int:=if 0<=d/\d<4 then mv b 5 d.toNat n else (b,4)
def z2C(b:Bk)(x y:Int):Bk×Int:=
 if (mv b 4 6 x).2=0 then if (mv (mv b 4 6 x).1 5 6 y).2=0 then ((mv (mv b 4 6 x).1 5 6 y).1,0) else (b,(mv (mv b 4 6 x).1 5 6 y).2) else (b,(mv b 4 6 x).2)
end
section
structure Vd where
 tok:Int
 sh:Int
 lost:Int
 jail:Bool
 dead:Bool
structure Wt where
 num:Int
 d:Int
 v:Int
 amt:Int
 hei:Int
 due:Int
 h0:Int
 h1:Int
structure St where
 b:Bk
 V:Nat->Vd
 S:Nat->Nat->Int
 W:List Wt
 next:Int
def inA(n:Int):Bool:=decide (0<=n/\n<=1125899906842624)
def isV(v:Int):Bool:=decide (0<=v/\v<6)
def isD(d:Int):Bool:=decide (0<=d/\d<4)
def vOk(x:Vd):Bool:=inA x.tok && inA x.sh && inA x.lost && !(decide (0<x.tok) && decide (x.sh=0)) && (x.jail || !x.dead)
def psh(S:Nat->Nat->Int)(v:Nat):Nat->Int
 | 0=>0
 | j+1=>psh S v j+S j v
def z3f(S:Nat->Nat->Int)(v:Nat):Nat->Bool
 | 0=>true
 | j+1=>z3f S v j && inA (S j v)
def q4s(S:Nat->Nat->Int)(v:Nat)(sh:Int):Bool:=z3f S v 4 && decide (psh S v 4=sh)
def q0p(last next:Int)(w:Wt):Bool:=decide (last<w.num) && decide (w.num<next) && isD w.d && isV w.v && inA w.amt && decide (0<=w.hei) && decide (0<=w.due)
def wOk(next:Int):Int->List Wt->Bool
 | _,[]=>true
 | last,w :: r=>q0p last next w && wOk next w.num r
def z2u:List Wt->Int
 | []=>0
 | w :: r=>w.amt+z2u r
def z7I(V:Nat->Vd):Nat->Int
 | 0=>0
 | k+1=>z7I V k+(V k).tok
def z3p(V:Nat->Vd):Nat->Int
 | 0=>0
 | k+1=>z3p V k+(V k).lost
def j3d(s:St)(v:Nat):Bool:=vOk (s.V v) && q4s s.S v (s.V v).sh
def pvs(s:St):Nat->Bool
 | 0=>true
 | k+1=>pvs s k && j3d s k
def bal(s:St):Bool:=decide (z7I s.V 6=s.b.bo) && decide (z2u s.W=s.b.wa) && decide (z3p s.V 6=s.b.bu)
def z0h(s:St):Bool:=s.b.good && decide (1<=s.next) && decide (s.next<=1125899906842624) && decide (s.W.length<=60) && wOk s.next 0 s.W && pvs s 6 && bal s
def z5J(s:St)(v:Int):Int:=if z0h s=true then if isV v=true then 0 else 4 else 2
def z0S(s:St)(d v:Int):Int:=if z5J s v=0 then if isD d=true then 0 else 4 else z5J s v
def mdN(a b c:Int):Int:=if a<0∨b<0∨c<1 then 0 else if a * b / c<=1125899906842624 then a * b / c else 0
def mdE(a b c:Int):Int:=if a<0∨b<0∨c<1 then 2 else if a * b / c<=1125899906842624 then 0 else 2
def shN(x:Vd)(n:Int):Int:=if x.sh=0 then n else if x.tok=0 then 0 else if mdE n x.sh x.tok=0/\inA (x.sh+mdN n x.sh x.tok)=true then mdN n x.sh x.tok else 0
def shE(x:Vd)(n:Int):Int:=if x.sh=0 then 0 else if x.tok=0 then 8 else if mdE n x.sh x.tok=0/\inA (x.sh+mdN n x.sh x.tok)=true then if mdN n x.sh x.tok=0 then 8 else 0 else 6
def woN(x:Vd)(n:Int):Int:=if mdE n x.tok x.sh=0 then mdN n x.tok x.sh else 0
def woE(x:Vd)(n:Int):Int:=if mdE n x.tok x.sh=0 then if mdN n x.tok x.sh=0 then 8 else 0 else mdE n x.tok x.sh
def z1E(V:Nat->Vd)(v:Nat)(x:Vd):Nat->Vd:=fun i=>if i=v then x else V i
def z5N(S:Nat->Nat->Int)(d v:Nat)(n:Int):Nat->Nat->Int:=fun i j=>if i=d/\j=v then n else S i j
def q2N(s:St)(d v:Nat)(t n:Int):St:={ s with V:=z1E s.V v { s.V v with tok:=(s.V v).tok+t,sh:=(s.V v).sh+n },S:=z5N s.S d v (s.S d v+n) }
theorem z0z{n:Int}:inA n=true↔0<=n/\n<=1125899906842624:=decide_eq_true_iff
theorem z2N{n:Int}:isV n=true↔0<=n/\n<6:=decide_eq_true_iff
theorem z4I{n:Int}:isD n=true↔0<=n/\n<4:=decide_eq_true_iff
end
section
open Go.RowKit
theorem hide{p:Prop}(h:p):Hid p:=h
theorem z6N(d:Int)(w:World):Calls prog 48 #[.int .i64 d] w fun e w'=>e=.returned (.bool (isV d))/\w=w':=by
 unfold isV
 by_cases h0:0<=d
 ·by_cases h1:d<6
  ·rw[decide_eq_true ⟨h0,h1⟩]
   go_enter func48,ntmps48
   go_wp2;go_ret;exact ⟨rfl,rfl⟩
  ·rw[decide_eq_false (by omega)]
   go_enter func48,ntmps48
   go_wp2;go_ret;exact ⟨rfl,rfl⟩
 ·rw[decide_eq_false (by omega)]
  go_enter func48,ntmps48
  go_wp2;go_ret;exact ⟨rfl,rfl⟩
theorem z8C(d:Int)(w:World):Calls prog 146 #[.int .i64 d] w fun e w'=>e=.returned (.bool (isD d))/\w=w':=by
 unfold isD
 by_cases h0:0<=d
 ·by_cases h1:d<4
  ·rw[decide_eq_true ⟨h0,h1⟩]
   go_enter func146,ntmps146
   go_wp2;go_ret;exact ⟨rfl,rfl⟩
  ·rw[decide_eq_false (by omega)]
   go_enter func146,ntmps146
   go_wp2;go_ret;exact ⟨rfl,rfl⟩
 ·rw[decide_eq_false (by omega)]
  go_enter func146,ntmps146
  go_wp2;go_ret;exact ⟨rfl,rfl⟩
theorem z4L(d:Int)(w:World):Calls prog 147 #[.int .i64 d] w fun e w'=>e=.returned (.bool (inA d))/\w=w':=z1m d w
theorem z6b(b o:Nat)(x:Vd)(w:World)(h0:w.cell? ⟨b,o,none⟩=some (.int .i64 x.tok))(h1:w.cell? ⟨b,o+1,none⟩=some (.int .i64 x.sh))(h2:w.cell? ⟨b,o+2,none⟩=some (.int .i64 x.lost))
  (h3:w.cell? ⟨b,o+3,none⟩=some (.bool x.jail)) (h4:w.cell? ⟨b,o+4,none⟩=some (.bool x.dead)) :
  Calls prog 141 #[.pointer (some ⟨b,o,none⟩)] w fun e w'=>e=.returned (.bool (vOk x))/\w=w':=by
 unfold vOk;have i1:=z4L x.tok;have i2:=z4L x.sh;have i3:=z4L x.lost;obtain ⟨xt,xs,xl,xj,xd⟩:=x;simp only at *;generalize inA xt=t1 at *;generalize inA xs=t2 at *;generalize inA xl=t3 at *
 go_enter func141,ntmps141
 go_wp2_with (first
  | (go_at_call 147;have _m:=m2;refine (i3 _).mono ?_;rintro e w7 ⟨rfl,rfl⟩)
  | (go_at_call 147;have _m:=m1;refine (i2 _).mono ?_;rintro e w6 ⟨rfl,rfl⟩;have m2:True:=trivial)
  | (go_at_call 147;refine (i1 _).mono ?_;rintro e w5 ⟨rfl,rfl⟩;have m1:True:=trivial))
 all_goals (go_ret;refine ⟨?_,rfl⟩;congr 1;congr 1;simp_all)
theorem eqA(w:World)(a0 a1 a2 a3 b0 b1 b2 b3:Int):(Op.equalIn 9999 33 (.agg #[.int .i64 a0,.int .i64 a1,.int .i64 a2,.int .i64 a3]) (.agg #[.int .i64 b0,.int .i64 b1,.int .i64 b2,.int .i64 b3])).run prog w=.ok (decide (a0=b0/\a1=b1/\a2=b2/\a3=b3)) w:=by
 have hi:(prog.info? 3).isSome=true:=by kernel_rfl
 obtain ⟨i,hi⟩:=Option.isSome_iff_exists.1 hi;have hc:prog.cellsOf 3=1:=by kernel_rfl
 rw[run_equalIn_array w 9998 _ _ underlying33 hi,hc,show List.range 4=[0,1,2,3] from rfl];simp only[Op.eqItems];go_simp
 by_cases h0:a0=b0 <;> by_cases h1:a1=b1 <;> by_cases h2:a2=b2 <;> by_cases h3:a3=b3 <;> simp[h0,h1,h2,h3]
theorem eqB(w:World)(a0 a1 a2 a3 a4 a5 a6 b0 b1 b2 b3 b4 b5 b6:Int):(binOp .eql 35 (.agg #[.int .i64 a0,.int .i64 a1,.int .i64 a2,.int .i64 a3,.int .i64 a4,.int .i64 a5,.int .i64 a6]) (.agg #[.int .i64 b0,.int .i64 b1,.int .i64 b2,.int .i64 b3,.int .i64 b4,.int .i64 b5,.int .i64 b6])).run prog w=.ok (.bool (decide (a0=b0/\a1=b1/\a2=b2/\a3=b3/\a4=b4/\a5=b5/\a6=b6))) w:=by
 have h:=fun w=>eqA w a0 a1 a2 a3 b0 b1 b2 b3;rw[run_eql_struct]
 by_cases hh:a0=b0/\a1=b1/\a2=b2/\a3=b3
 ·rw[decide_eq_true hh]at h;obtain ⟨h0,h1,h2,h3⟩:=hh;go_simp;subst h0 h1 h2 h3
  by_cases h4:a4=b4 <;> by_cases h5:a5=b5 <;> by_cases h6:a6=b6 <;> simp[h4,h5,h6,h]
 ·rw[decide_eq_false hh]at h;have e:decide (a0=b0/\a1=b1/\a2=b2/\a3=b3/\a4=b4/\a5=b5/\a6=b6)=false:=decide_eq_false (fun g=>hh ⟨g.1,g.2.1,g.2.2.1,g.2.2.2.1⟩);rw[e];go_simp
end
section
def z0N(s:St)(d v n:Int):St×Int:=
 if z0S s d v=0 then
  if (s.V v.toNat).dead=true then (s,15)
  else if (decide (0<n) && inA n)=true then
   if shE (s.V v.toNat) n=0 then
    if (z2s s.b d n).2=0 then (q2N { s with b:=(z2s s.b d n).1 } d.toNat v.toNat n (shN (s.V v.toNat) n),0)
    else (s,(z2s s.b d n).2)
   else (s,shE (s.V v.toNat) n)
  else (s,2)
 else (s,z0S s d v)
end
namespace Ra
open Go.RowKit
theorem q3T(lo y:Int)(l0:0<=lo)(l1:lo<18446744073709551616)(hy0:0<y)(_hy:y<9223372036854775808)(w:World) :
  Calls prog 171 #[.int .u64 0,.int .u64 lo,.int .u64 y] w fun e w'=>∃ r,e=.returned (.tuple #[.int .u64 (lo / y),.int .u64 r])/\Below w.heap.size w w':=by
 have t1:(y == 0)=false:=by simp;omega
 have t1':¬ y=0:=by omega
 have t2:¬ y<=0:=by omega
 have ed:lo.tdiv y=lo / y:=Int.tdiv_eq_ediv_of_nonneg l0;have b0:0<=lo / y:=Int.ediv_nonneg l0 (by omega)
 have b1:lo / y<=lo:=Int.ediv_le_self _ l0;obtain ⟨q,hq⟩:∃ q,lo / y=q:=⟨_,rfl⟩;rw[hq]at ed b0 b1 ⊢;have eq:IntKind.u64.wrap q=q:=by rw[IntKind.wrap_u64];omega
 go_enter func171,ntmps171
 go_wp2;go_quiet (fail);go_wp2;go_ret2;exact ⟨_,rfl,⟨rfl,rfl,rfl,Nat.le_refl _,fun _ _=>rfl⟩⟩
theorem j8B(hi lo y:Int)(h0:0<=hi)(h1:hi<y)(l0:0<=lo)(l1:lo<18446744073709551616)(hy:y<9223372036854775808)(w:World) :
  Calls prog 171 #[.int .u64 hi,.int .u64 lo,.int .u64 y] w fun e w'=>∃ r,e=.returned (.tuple #[.int .u64 ((hi * 18446744073709551616+lo) / y),.int .u64 r])/\Below w.heap.size w w':=by
 by_cases hz:hi=0
 ·subst hz;have e:0 * 18446744073709551616+lo=lo:=by omega
  rw[e];exact q3T lo y l0 l1 h1 hy w
 ·obtain ⟨hn,rfl⟩:=Int.eq_ofNat_of_zero_le h0;obtain ⟨ln,rfl⟩:=Int.eq_ofNat_of_zero_le l0;obtain ⟨yn,rfl⟩:=Int.eq_ofNat_of_zero_le (show 0<=y by omega)
  obtain ⟨s,hs,hs1,hs2,hY1,hY2⟩:=q6A yn (by omega) (by omega)
  obtain ⟨e,b1,b2,b3⟩:=q3C hn ln yn s hs1 hs2 (by omega) (by omega) hY2
  have hc:∀ w,Calls prog 194 #[.int .u64 (yn:Int)] w fun e w'=>e=.returned (.int .i64 s)/\w'=w:=fun w=>by
   have:=q7L yn (by omega) (by omega) w
   rwa [show (64:Int) - (bitLen yn:Int)=(s:Int) by omega]at this
  have hp:((2 ^ s:Nat):Int)=(2:Int) ^ s:=by rw[Int.natCast_pow];rfl
  have hp':((2 ^ (64 - s):Nat):Int)=(2:Int) ^ (64 - s):=by rw[Int.natCast_pow];rfl
  have b4:ln / 2 ^ (64 - s)<=ln:=Nat.div_le_self _ _;obtain ⟨Y,eY⟩:∃ Y,yn * 2 ^ s=Y:=⟨_,rfl⟩;obtain ⟨u,eu⟩:∃ u,hn * 2 ^ s+ln / 2 ^ (64 - s)=u:=⟨_,rfl⟩;obtain ⟨N,eN⟩:∃ N,ln * 2 ^ s % 18446744073709551616=N:=⟨_,rfl⟩;have hN:N<18446744073709551616:=by omega
  have hor:=j3F hn (ln / 2 ^ (64 - s)) s b2 b3 (by omega)
  rw[eu]at e b1 hor;rw[eY]at hY1 hY2 b1;rw[eN]at e
  have c:=q3V (hn:Int) (ln:Int) (yn:Int) (Y:Int) ((Y:Int) / 4294967296) ((Y:Int) % 4294967296) ((hn * 2 ^ s:Nat):Int) ((ln / 2 ^ (64 - s):Nat):Int) (u:Int) (N:Int) ((N:Int) / 4294967296) ((N:Int) % 4294967296)
   _ _ _ s (by omega) h1 hs1 hs2
   (by rw[← hp,← Int.natCast_mul,eY,IntKind.wrap_u64];omega) rfl (and_low32 _ (by omega) (by omega))
   (by rw[← hp,← Int.natCast_mul,IntKind.wrap_u64];omega) (by rw[← hp',← Int.natCast_ediv]) hor
   (by rw[← hp,← Int.natCast_mul,IntKind.wrap_u64,← eN];omega) rfl (and_low32 _ (by omega) (by omega))
   (by omega) (by omega) (by omega) (by omega) (by omega) (by show _=_;omega) (by show _<_;omega) (by omega) (by omega) (by omega) (by omega) rfl rfl rfl hc w
  have eYY:(Y:Int) / 4294967296 * 4294967296+(Y:Int) % 4294967296=(Y:Int):=by omega
  rw[eYY,q4G _ _ _ _ (by omega)]at c
  have eNN:(u:Int) * 18446744073709551616+(N:Int) / 4294967296 * 4294967296+(N:Int) % 4294967296=((hn:Int) * 18446744073709551616+(ln:Int)) * (2:Int) ^ s:=by
   have:(u:Int) * 18446744073709551616+(N:Int)=((hn:Int) * 18446744073709551616+(ln:Int)) * (2:Int) ^ s:=by
    rw[← hp];have e':(((hn * 18446744073709551616+ln) * 2 ^ s:Nat):Int)=((u * 18446744073709551616+N:Nat):Int):=by rw[e]
    rw[Int.natCast_mul,Int.natCast_add,Int.natCast_mul,Int.natCast_add,Int.natCast_mul]at e';exact e'.symm
   rw[← this];omega
  rw[eNN,← eY,Int.natCast_mul,hp,q5H _ _ _ (Int.pow_pos (by decide))]at c
  exact c
/-! ### the answers -/
def mdN(a b c:Int):Int:=if a<0∨b<0∨c<1 then 0 else if a * b / c<=1125899906842624 then a * b / c else 0
def mdE(a b c:Int):Int:=if a<0∨b<0∨c<1 then 2 else if a * b / c<=1125899906842624 then 0 else 2
theorem j6n{a b c:Int}(h:a<0∨b<0∨c<1):mdN a b c=0/\mdE a b c=2:=by
 unfold mdN mdE;rw[if_pos h,if_pos h];exact ⟨rfl,rfl⟩
theorem j4r{a b c:Int}(h:1125899906842624<a * b / c):mdN a b c=0/\mdE a b c=2:=by
 unfold mdN mdE;have:¬ a * b / c<=1125899906842624:=by omega
 by_cases g:a<0∨b<0∨c<1
 ·rw[if_pos g,if_pos g];exact ⟨rfl,rfl⟩
 ·rw[if_neg g,if_neg g,if_neg this,if_neg this];exact ⟨rfl,rfl⟩
theorem q8M{a b c:Int}(h1:0<=a)(h2:0<=b)(h3:1<=c)(h:a * b / c<=1125899906842624):mdN a b c=a * b / c/\mdE a b c=0:=by
 unfold mdN mdE;have g:¬ (a<0∨b<0∨c<1):=by omega
 rw[if_neg g,if_neg g,if_pos h,if_pos h];exact ⟨rfl,rfl⟩
theorem q0J(a b c:Int)(a0:0<=a)(a1:a<=9223372036854775807)(b0:0<=b)(b1:b<=9223372036854775807)(c0:1<=c)(c1:c<=9223372036854775807)(w:World) :
  Calls prog 148 #[.int .i64 a,.int .i64 b,.int .i64 c] w fun e w'=>e=.returned (.tuple #[.int .i64 (mdN a b c),.int .i64 (mdE a b c)])/\Below w.heap.size w w':=by
 have t1:¬ a<0:=by omega
 have t2:¬ b<0:=by omega
 have t3:¬ c<1:=by omega
 have cm:=j8F a b a0 (by omega) b0 (by omega)
 have hab:0<=a * b:=Int.mul_nonneg a0 b0
 have hab1:a * b<340282366920938463463374607431768211456:=by
  have:=Int.mul_le_mul a1 b1 b0 (by omega)
  omega
 have dv:=Int.mul_ediv_add_emod (a * b) c;have Hgood:Hid (a * b / c<=1125899906842624->mdN a b c=a * b / c/\mdE a b c=0):=fun h=>q8M a0 b0 c0 h;have Hover:Hid (1125899906842624<a * b / c->mdN a b c=0/\mdE a b c=2):=fun h=>j4r h
 have hdv:a * b / 18446744073709551616≥c->1125899906842624<a * b / c:=fun h=>by
  have:1125899906842625<=a * b / c:=by
   rw[Int.le_ediv_iff_mul_le (by omega)]
   omega
  omega
 have hq0:0<=a * b / c:=Int.ediv_nonneg hab (by omega)
 generalize mdN a b c=X at *;generalize mdE a b c=Y at *;clear dv;generalize a * b=p at *;obtain ⟨hi,hhi⟩:∃ h,p / 18446744073709551616=h:=⟨_,rfl⟩;obtain ⟨lo,hlo⟩:∃ l,p % 18446744073709551616=l:=⟨_,rfl⟩;have hp:hi * 18446744073709551616+lo=p:=by omega
 have hi0:0<=hi:=by omega
 have lo0:0<=lo:=by omega
 have lo1:lo<18446744073709551616:=by omega
 rw[hhi]at hdv cm;rw[hlo]at cm
 by_cases hc:c<=hi
 ·have hX:=Hover.out (hdv hc);obtain ⟨rfl,rfl⟩:=hX;clear Hgood Hover hdv hhi hlo hp hab hab1 hq0
  go_enter func148,ntmps148
  go_wp2_with (go_at_call 170;refine (cm _).mono ?_;rintro e w' ⟨rfl,rfl⟩)
  go_ret2;exact ⟨rfl,⟨rfl,rfl,rfl,Nat.le_refl _,fun _ _=>rfl⟩⟩
 ·have cd:=j8B hi lo c hi0 (by omega) lo0 lo1 (by omega)
  rw[hp]at cd;obtain ⟨n,hn⟩:∃ n,p / c=n:=⟨_,rfl⟩;rw[hn]at cd Hgood Hover hq0
  by_cases hm:n<=1125899906842624
  ·obtain ⟨rfl,rfl⟩:=Hgood.out hm;have hm':¬ 1125899906842624<X:=by omega
   clear Hgood Hover hdv hhi hlo hp hab hab1 hn
   go_enter func148,ntmps148
   go_wp2_with (first | (go_at_call 170;refine (cm _).mono ?_;rintro e w' ⟨rfl,rfl⟩) | (go_at_call 171;refine (cd _).mono ?_;rintro e w' ⟨r,rfl,hg⟩))
   go_ret2;exact ⟨rfl,hg⟩
  ·obtain ⟨rfl,rfl⟩:=Hover.out (by omega)
   have hm':1125899906842624<n:=by omega
   clear Hgood Hover hdv hhi hlo hp hab hab1 hn
   go_enter func148,ntmps148
   go_wp2_with (first | (go_at_call 170;refine (cm _).mono ?_;rintro e w' ⟨rfl,rfl⟩) | (go_at_call 171;refine (cd _).mono ?_;rintro e w' ⟨r,rfl,hg⟩))
   go_ret2;exact ⟨rfl,hg⟩
theorem q5F(a b c:Int)(h:a<0∨b<0∨c<1)(w:World) :
  Calls prog 148 #[.int .i64 a,.int .i64 b,.int .i64 c] w fun e w'=>e=.returned (.tuple #[.int .i64 (mdN a b c),.int .i64 (mdE a b c)])/\Below w.heap.size w w':=by
 obtain ⟨e1,e2⟩:=j6n h;rw[e1,e2];clear e1 e2
 by_cases t1:a<0
 ·clear h
  go_enter func148,ntmps148
  go_wp2;go_ret2;exact ⟨rfl,⟨rfl,rfl,rfl,Nat.le_refl _,fun _ _=>rfl⟩⟩
 ·by_cases t2:b<0
  ·clear h
   go_enter func148,ntmps148
   go_wp2;go_ret2;exact ⟨rfl,⟨rfl,rfl,rfl,Nat.le_refl _,fun _ _=>rfl⟩⟩
  ·have t3:c<1:=by omega
   clear h
   go_enter func148,ntmps148
   go_wp2;go_ret2;exact ⟨rfl,⟨rfl,rfl,rfl,Nat.le_refl _,fun _ _=>rfl⟩⟩
theorem j2X(a b c:Int)(a1:a<=9223372036854775807)(b1:b<=9223372036854775807)(c1:c<=9223372036854775807)(w:World) :
  Calls prog 148 #[.int .i64 a,.int .i64 b,.int .i64 c] w fun e w'=>e=.returned (.tuple #[.int .i64 (mdN a b c),.int .i64 (mdE a b c)])/\Below w.heap.size w w':=by
 by_cases h:a<0∨b<0∨c<1
 ·exact q5F a b c h w
 ·exact q0J a b c (by omega) a1 (by omega) b1 (by omega) c1 w
def inB(n:Int):Bool:=decide (0<=n) && decide (n<=1125899906842624)
theorem j1o{n:Int}(h0:0<=n)(h1:n<=1125899906842624):inB n=true:=by simp[inB,h0,h1]
theorem j3v{n:Int}(h:¬ 0<=n):inB n=false:=by simp[inB,h]
theorem q9Z{n:Int}(h:¬ n<=1125899906842624):inB n=false:=by simp[inB,h]
theorem q7G{n:Int}:inB n=true↔0<=n/\n<=1125899906842624:=by simp[inB]
theorem j9q(n:Int)(w:World):Calls prog 147 #[.int .i64 n] w fun e w'=>e=.returned (.bool (inB n))/\w'=w:=by
 by_cases h0:0<=n
 ·by_cases h1:n<=1125899906842624
  ·rw[j1o h0 h1]
   go_enter func147,ntmps147
   go_wp2;go_ret;exact ⟨rfl,rfl⟩
  ·rw[q9Z h1]
   go_enter func147,ntmps147
   go_wp2;go_ret;exact ⟨rfl,rfl⟩
 ·rw[j3v h0]
  go_enter func147,ntmps147
  go_wp2;go_ret;exact ⟨rfl,rfl⟩
def ptN(n f:Int):Int:=if inB n=true/\0<=f/\f<=1000 then n * f / 1000 else 0
def ptE(n f:Int):Int:=if inB n=true/\0<=f/\f<=1000 then 0 else 2
theorem q6D{n f:Int}(h:inB n=true/\0<=f/\f<=1000):ptN n f=n * f / 1000/\ptE n f=0:=by unfold ptN ptE;rw[if_pos h,if_pos h];exact ⟨rfl,rfl⟩
theorem q6m{n f:Int}(h:¬ (inB n=true/\0<=f/\f<=1000)):ptN n f=0/\ptE n f=2:=by unfold ptN ptE;rw[if_neg h,if_neg h];exact ⟨rfl,rfl⟩
theorem j8p{n f:Int}(h0:0<=n)(f0:0<=f)(f1:f<=1000):0<=n * f / 1000/\n * f / 1000<=n:=by
 have h1:0<=n * f:=Int.mul_nonneg h0 f0;have h2:=Int.mul_le_mul_of_nonneg_left f1 h0;omega
theorem j6s(n f:Int)(w:World):Calls prog 154 #[.int .i64 n,.int .i64 f] w fun e w'=>e=.returned (.tuple #[.int .i64 (ptN n f),.int .i64 (ptE n f)])/\Below w.heap.size w w':=by
 have ci:=j9q n
 by_cases hi:inB n=true
 ·obtain ⟨n0,n1⟩:=q7G.1 hi
  by_cases f0:f<0
  ·obtain ⟨e1,e2⟩:=q6m (n:=n) (f:=f) (by omega)
   rw[e1,e2];rw[hi]at ci;clear e1 e2 hi
   go_enter func154,ntmps154
   go_wp2_with (go_at_call 147;refine (ci _).mono ?_;rintro e w' ⟨rfl,rfl⟩)
   go_ret2;exact ⟨rfl,⟨rfl,rfl,rfl,Nat.le_refl _,fun _ _=>rfl⟩⟩
  ·by_cases f1:1000<f
   ·obtain ⟨e1,e2⟩:=q6m (n:=n) (f:=f) (by omega)
    rw[e1,e2];rw[hi]at ci;clear e1 e2 hi
    go_enter func154,ntmps154
    go_wp2_with (go_at_call 147;refine (ci _).mono ?_;rintro e w' ⟨rfl,rfl⟩)
    go_ret2;exact ⟨rfl,⟨rfl,rfl,rfl,Nat.le_refl _,fun _ _=>rfl⟩⟩
   ·obtain ⟨e1,e2⟩:=q6D (n:=n) (f:=f) ⟨hi,by omega,by omega⟩
    have cm:=j2X n f 1000 (by omega) (by omega) (by omega)
    have hl:=j8p (n:=n) (f:=f) n0 (by omega) (by omega)
    obtain ⟨e3,e4⟩:=q8M (a:=n) (b:=f) (c:=1000) n0 (by omega) (by omega) (by omega)
    rw[e3,e4]at cm;rw[e1,e2];rw[hi]at ci;generalize n * f / 1000=x at *;clear e1 e2 e3 e4 hi
    go_enter func154,ntmps154
    go_wp2_with (first | (go_at_call 147;refine (ci _).mono ?_;rintro e w' ⟨rfl,rfl⟩) | (go_at_call 148;refine (cm _).mono ?_;rintro e w' ⟨rfl,hg⟩))
    go_ret2;exact ⟨rfl,hg⟩
 ·obtain ⟨e1,e2⟩:=q6m (n:=n) (f:=f) (by simp[hi])
  rw[e1,e2];have hi':inB n=false:=by simpa using hi
  rw[hi']at ci;clear e1 e2 hi hi'
  go_enter func154,ntmps154
  go_wp2_with (go_at_call 147;refine (ci _).mono ?_;rintro e w' ⟨rfl,rfl⟩)
  go_ret2;exact ⟨rfl,⟨rfl,rfl,rfl,Nat.le_refl _,fun _ _=>rfl⟩⟩
end Ra
section
open Go.RowKit
def j0A(x y:Int):Int:=if x<y then -1 else if y<x then 1 else 0
theorem j4L(x y:Int):j0A x y=if x<y then -1 else if y<x then 1 else 0:=rfl
def j1N(a b:Int×Int):Int:=j0A a.1 b.1
def j5P(a b:Int×Int):Int:=if a.2=b.2 then j1N a b else j0A b.2 a.2
theorem z7p(x:Int)(w:World):Calls prog 189 #[.int .i64 x] w fun e w'=>e=.returned (.bool false)/\w=w':=by
 go_enter func189,ntmps189
 go_wp2;go_ret;exact ⟨by simp,rfl⟩
theorem q2J(x y:Int)(w:World):Calls prog 160 #[.int .i64 x,.int .i64 y] w fun e w'=>e=.returned (.int .i64 (j0A x y))/\w=w':=by
 have HC:=hide (j4L x y);generalize j0A x y=r at *
 go_enter func160,ntmps160
 go_wp2_with (go_at_call 189;refine (z7p _ _).mono ?_;rintro e w1 ⟨rfl,rfl⟩)
 all_goals (go_ret;refine ⟨?_,rfl⟩;have h:=HC.out;first | (simp_all;done) | (simp_all;omega) | (rw[h,if_neg (by omega),if_neg (by omega)];rfl) | (rw[h,if_neg (by omega),if_pos (by omega)];rfl) | (rw[h,if_pos (by omega)];rfl))
theorem z6m(a b:Int×Int)(w:World):Calls prog 119 #[.agg #[.int .i64 a.1,.int .i64 a.2],.agg #[.int .i64 b.1,.int .i64 b.2]] w fun e w'=>e=.returned (.int .i64 (j1N a b))/\Below w.heap.size w w':=by
 have hc:=q2J a.1 b.1;unfold j1N;generalize j0A a.1 b.1=r at *
 go_enter func119,ntmps119
 go_wp2_with (go_at_call 160;refine (hc _).mono ?_;rintro e w1 ⟨rfl,rfl⟩)
 go_ret;exact ⟨rfl,(znw _ _).alloc (by simp) _⟩
theorem q1N(a b:Int×Int)(w:World):Calls prog 118 #[.agg #[.int .i64 a.1,.int .i64 a.2],.agg #[.int .i64 b.1,.int .i64 b.2]] w fun e w'=>e=.returned (.int .i64 (j5P a b))/\Below w.heap.size w w':=by
 have hc:=q2J b.2 a.2;have hn:=fun w=>z6m a b w
 by_cases h:a.2=b.2
 ·have e:j5P a b=j1N a b:=if_pos h;rw[e];generalize j1N a b=r at *;have hb:(a.2 != b.2)=false:=by simpa using h
  clear hc;obtain ⟨a1,a2⟩:=a;obtain ⟨b1,b2⟩:=b;simp only at *;subst h
  go_enter func118,ntmps118
  go_wp2_with (go_at_call 119;refine (hn _).mono ?_;rintro e w1 ⟨rfl,h1⟩)
  go_ret;exact ⟨rfl,((znw _ _).alloc (by simp) _).trans (h1.mono (by simp;omega))⟩
 ·have e:j5P a b=j0A b.2 a.2:=if_neg h;rw[e];generalize j0A b.2 a.2=r at *;have hb:(a.2 != b.2)=true:=by simpa using h
  go_enter func118,ntmps118
  go_wp2_with (go_at_call 160;refine (hc _).mono ?_;rintro e w1 ⟨rfl,rfl⟩)
  go_ret;exact ⟨rfl,(znw _ _).alloc (by simp) _⟩
theorem z6V{n:Int}(h0:-9223372036854775808<=n)(h1:n<9223372036854775808):IntKind.i64.wrap n=n:=by
 rw[IntKind.wrap_i64];omega
abbrev Pw:=Int×Int
def pz:Pw:=(0,0)
def swapAt(l:List Pw)(p:Nat):List Pw:=(l.set (p+1) (l.getD p pz)).set p (l.getD (p+1) pz)
def z7F(lt:Pw->Pw->Bool):Nat->List Pw->List Pw
 | 0,l=>l
 | p+1,l=>if lt (l.getD (p+1) pz) (l.getD p pz)=true then z7F lt p (swapAt l p) else l
def z1k(lt:Pw->Pw->Bool)(l:List Pw):Nat->List Pw
 | 0=>l
 | m+1=>z7F lt (m+1) (z1k lt l m)
def z2t(lt:Pw->Pw->Bool)(l:List Pw):List Pw:=z1k lt l (l.length - 1)
def ltV(a b:Pw):Bool:=decide (j1N a b<0)
def ltP(a b:Pw):Bool:=decide (j5P a b<0)
def z1M(w:World)(g:Nat)(l:List Pw):Prop:=∃ cur,w.heap[g]?=some (.cells cur 68 (0,0))/\∀ i x,l[i]?=some x->cur[i * 2]?=some (.int .i64 x.1)/\cur[i * 2+1]?=some (.int .i64 x.2)
theorem z3b(l:List Pw)(p:Nat):(swapAt l p).length=l.length:=by simp[swapAt]
theorem z8y(lt:Pw->Pw->Bool):∀ (j:Nat) (l:List Pw),(z7F lt j l).length=l.length
 | 0,_=>rfl
 | p+1,l=>by rw[z7F];split;rw[z8y lt p,z3b];rfl
theorem z1N(lt:Pw->Pw->Bool)(l:List Pw):∀ m,(z1k lt l m).length=l.length
 | 0=>rfl
 | m+1=>by rw[z1k,z8y,z1N lt l m]
structure z2R(g:Nat)(w w':World):Prop where
 os:w'.os=w.os
 tape:w'.tape=w.tape
 output:w'.output=w.output
 size:w.heap.size<=w'.heap.size
 block:∀ k,k<w.heap.size->k≠g->w'.heap[k]?=w.heap[k]?
theorem z2R.refl(g:Nat)(w:World):z2R g w w:=⟨rfl,rfl,rfl,Nat.le_refl _,fun _ _ _=>rfl⟩
theorem z2R.trans{g:Nat}{a b c:World}(h:z2R g a b)(k:z2R g b c):z2R g a c:=
 ⟨k.os.trans h.os,k.tape.trans h.tape,k.output.trans h.output,Nat.le_trans h.size k.size,fun i hi hg=>(k.block i (Nat.lt_of_lt_of_le hi h.size) hg).trans (h.block i hi hg)⟩
theorem z2R.of_below{g:Nat}{a b:World}(h:Below a.heap.size a b):z2R g a b:=⟨h.os,h.tape,h.output,h.size,fun k hk _=>h.block k hk⟩
theorem z2R.set{g:Nat}{w w':World}(h:z2R g w w')(o:Nat)(v:Value):z2R g w (w'.setCell ⟨g,o,none⟩ v):=
 ⟨h.os,h.tape,h.output,(by simp[World.setCell];exact h.size),fun k hk hg=>(Below.heap_setCell _ _ _ _ hg).trans (h.block k hk hg)⟩
theorem z2R.drew{g:Nat}{w w':World}(h:z2R g w w'):z2R g w w'.drew:=⟨h.os,h.tape,h.output,h.size,h.block⟩
theorem z2R.drewN{g:Nat}{w w':World}(h:z2R g w w')(n:Nat):z2R g w (w'.drewN n):=⟨h.os,h.tape,h.output,h.size,h.block⟩
theorem z2R.below{g B:Nat}{w w':World}(h:z2R g w w')(hB:B<=g)(hs:B<=w.heap.size):Below B w w':=⟨h.os,h.tape,h.output,h.size,fun k hk=>h.block k (by omega) (by omega)⟩
theorem z1M.later{w w':World}{g:Nat}{l:List Pw}(h:z1M w g l)(hb:Below w.heap.size w w'):z1M w' g l:=by
 obtain ⟨cur,hc,hx⟩:=h;exact ⟨cur,(hb.block g (Array.getElem?_eq_some_iff.1 hc).1).trans hc,hx⟩
theorem z1M.cell{w:World}{g:Nat}{l:List Pw}(h:z1M w g l){i:Nat}(hi:i<l.length):w.cell? ⟨g,i * 2,none⟩=some (.int .i64 (l.getD i pz).1)/\w.cell? ⟨g,i * 2+1,none⟩=some (.int .i64 (l.getD i pz).2):=by
 obtain ⟨cur,hc,hx⟩:=h;have e:l[i]?=some (l.getD i pz):=by simp[List.getD,hi]
 obtain ⟨h1,h2⟩:=hx i _ e;simp only[World.cell?,hc]
 simp[h1,h2]
theorem z1M.free{w:World}{g:Nat}{l:List Pw}(h:z1M w g l)(o:Nat):w.frozen? ⟨g,o,none⟩=false:=by
 obtain ⟨cur,hc,_⟩:=h
 simp[World.frozen?,hc]
theorem z1M.lt{w:World}{g:Nat}{l:List Pw}(h:z1M w g l):g<w.heap.size:=by
 obtain ⟨cur,hc,_⟩:=h;exact (Array.getElem?_eq_some_iff.1 hc).1
theorem z1M.put{w:World}{g:Nat}{l:List Pw}(h:z1M w g l){i:Nat}(hi:i<l.length)(x:Pw):z1M ((w.setCell ⟨g,i * 2,none⟩ (.int .i64 x.1)).setCell ⟨g,i * 2+1,none⟩ (.int .i64 x.2)) g (l.set i x):=by
 have hc0:=h.cell hi;obtain ⟨cur,hc,hx⟩:=h
 have s1:i * 2<cur.size:=by
  have:=(hx i _ (List.getElem?_eq_getElem hi)).1;exact (Array.getElem?_eq_some_iff.1 this).1
 have s2:i * 2+1<cur.size:=by
  have:=(hx i _ (List.getElem?_eq_getElem hi)).2;exact (Array.getElem?_eq_some_iff.1 this).1
 refine ⟨(cur.setIfInBounds (i * 2) (.int .i64 x.1)).setIfInBounds (i * 2+1) (.int .i64 x.2),?_,fun j y hy=>?_⟩
 ·simp[World.setCell,Array.getElem?_modify,hc]
 ·rw[List.getElem?_set]at hy
  by_cases hj:i=j
  ·subst hj;rw[if_pos rfl,if_pos hi]at hy
   simp at hy
   subst hy
   simp[s1,s2]
  ·rw[if_neg hj]at hy;obtain ⟨h1,h2⟩:=hx j y hy;simp only[Array.getElem?_setIfInBounds];rw[if_neg (by omega),if_neg (by omega),if_neg (by omega),if_neg (by omega)]
   exact ⟨h1,h2⟩
end
end Go.Proofs.YtmopekkhmhhcaaaGreat
