/- Parts of the proof. -/
import Derived.Test.YtmopekkhmhhcaaaGreatFL
import Derived.Test.YtmopekkhmhhcaaaGreatFK28
import Derived.Test.YtmopekkhmhhcaaaGreatFK35
import Derived.Deep.DeepCutAuto
import Derived.OneCell
import Derived.OwnWalk
import Derived.Deep.OwnRows
import Derived.WideShapes
import Derived.Deep.RegionHeld3
import Derived.Deep.RegionWith
set_option maxRecDepth 100000
set_option maxHeartbeats 16000000
namespace Go.Proofs.YtmopekkhmhhcaaaGreat
open Go.Proofs.Tryz
section
open Go.RowKit
def spl(cs:Array Value):Nat->List Value->Array Value
 | _,[]=>cs
 | o,v :: r=>spl (cs.setIfInBounds o v) (o+1) r
theorem q2p:∀ (vs:List Value) (cs:Array Value) (o i:Nat),o+vs.length<=cs.size->(spl cs o vs)[i]?=if o<=i/\i<o+vs.length then vs[i - o]? else cs[i]?
 | [],cs,o,i,_=>by simp[spl];intro h1 h2;omega
 | v :: r,cs,o,i,h=>by
  simp only[List.length_cons]at h;rw[spl,q2p r _ (o+1) i (by simp;omega)]
  by_cases e:i=o
  ·subst e;have:i<cs.size:=by omega
   simp[this]
   intro h1;omega
  ·by_cases h1:o+1<=i/\i<o+1+r.length
   ·rw[if_pos h1,if_pos ⟨by omega,by simp;omega⟩]
    obtain⟨j,rfl⟩:∃ j,i=o+1+j:=⟨i - (o+1),by omega⟩
    rw[show o+1+j - (o+1)=j by omega,show o+1+j - o=j+1 by omega]
    simp
   ·rw[if_neg h1,if_neg (by simp;omega),Array.getElem?_setIfInBounds_ne (by omega)]
theorem q8i{cs ds:Array Value}(h:ds.size=cs.size):spl cs 0 ds.toList=ds:=by
 apply Array.ext_getElem?;intro i;rw[q2p _ _ _ _ (by simp;omega)]
 by_cases hi:i<ds.size
 ·rw[if_pos ⟨by omega,by simp;omega⟩];simp
 ·rw[if_neg (by simp;omega),Array.getElem?_eq_none (by omega),Array.getElem?_eq_none (by omega)]
theorem z0b{B b:Nat}{a:World}(hB:B<=b):∀ (vs:List Value) (o:Nat) (w:World),Below B a w->Below B a (w.setCells b o vs)
 | [],_,_,h=>h
 | v :: r,o,_,h=>z0b hB r (o+1) _ (h.setCell hB v)
theorem z1k{b k:Nat}(hk:k≠b):∀ (vs:List Value) (o:Nat) (w:World),(w.setCells b o vs).heap[k]?=w.heap[k]?
 | [],_,_=>rfl
 | _ :: r,o,_=>(z1k hk r (o+1) _).trans (Below.heap_setCell _ _ _ _ hk)
end
namespace Pv
open Go.RowKit
theorem hide{p:Prop}(h:p):Hid p:=h
def CAt(ty:TypeId)(w:World)(b:Nat)(cs:Array Value):Prop:=w.heap[b]?=some (.cells cs ty)
section
variable {ty:TypeId} {w w':World} {b B:Nat} {cs:Array Value}
theorem CAt.new(ty:TypeId)(w:World)(cs:Array Value):CAt ty (w.alloc (.cells cs ty)) w.heap.size cs:=heap_alloc_new _ _
theorem CAt.new2(ty:TypeId)(w:World)(o:Obj)(cs:Array Value):CAt ty ((w.alloc o).alloc (.cells cs ty)) (w.heap.size+1) cs:=by
 have h:=CAt.new ty (w.alloc o) cs
 rwa [show (w.alloc o).heap.size=w.heap.size+1 by simp]at h
theorem CAt.later(h:CAt ty w b cs)(hb:Below B w w')(hB:b<B):CAt ty w' b cs:=(hb.block b hB).trans h
theorem CAt.lt(h:CAt ty w b cs):b<w.heap.size:=(Array.getElem?_eq_some_iff.1 h).1
theorem CAt.over(h:CAt ty w b cs)(hb:Below w.heap.size w w'):CAt ty w' b cs:=h.later hb h.lt
theorem CAt.alloc(h:CAt ty w b cs)(o:Obj):CAt ty (w.alloc o) b cs:=(Below.heap_alloc _ _ _ h.lt).trans h
theorem CAt.keep(h:CAt ty w b cs)(hk:w'.heap[b]?=w.heap[b]?):CAt ty w' b cs:=hk.trans h
theorem CAt.other{c o:Nat}(h:CAt ty w b cs)(hb:b≠c)(v:Value):CAt ty (w.setCell ⟨c,o,none⟩ v) b cs:=(Below.heap_setCell _ _ _ _ hb).trans h
theorem CAt.others{c o:Nat}(h:CAt ty w b cs)(hb:b≠c)(vs:List Value):CAt ty (w.setCells c o vs) b cs:=(z1k hb _ _ _).trans h
theorem CAt.cell(h:CAt ty w b cs)(o:Nat):w.cell? ⟨b,o,none⟩=cs[o]?:=by
 unfold CAt at h
 simp[World.cell?,h]
theorem CAt.free(h:CAt ty w b cs)(o:Nat):w.frozen? ⟨b,o,none⟩=false:=by
 unfold CAt at h
 simp[World.frozen?,h]
theorem CAt.set(h:CAt ty w b cs)(o:Nat)(v:Value):CAt ty (w.setCell ⟨b,o,none⟩ v) b (cs.setIfInBounds o v):=by
 unfold CAt at *
 simp[World.setCell,Array.getElem?_modify,h]
theorem CAt.range(h:CAt ty w b cs):w.rangeAt b 0 cs.toList:=by
 intro j v hv;rw[Nat.zero_add,h.cell]
 simpa using hv
theorem CAt.part(h:CAt ty w b cs){o:Nat}{ds:List Value}(hd:∀ j v,ds[j]?=some v->cs[o+j]?=some v):w.rangeAt b o ds:=by
 intro j v hv;rw[h.cell];exact hd j v hv
theorem CAt.there(h:CAt ty w b cs)(o n:Nat)(hn:o+n<=cs.size):w.there b o n:=by
 intro j hj;rw[h.cell,h.free];have:o+j<cs.size:=by omega
 simp[this]
theorem CAt.sets:∀ (vs:List Value) (o:Nat) (w:World) (cs:Array Value),CAt ty w b cs->CAt ty (w.setCells b o vs) b (spl cs o vs)
 | [],_,_,_,h=>h
 | v :: r,o,_,_,h=>CAt.sets r (o+1) _ _ (h.set o v)
theorem CAt.z0H{ds:Array Value}(h:CAt ty w b cs)(hd:ds.size=cs.size):CAt ty (w.setCells b 0 ds.toList) b ds:=by
 have:=CAt.sets ds.toList 0 w cs h
 rwa [q8i hd]at this
end
def Rep(P:Nat->Prop)(w:World)(v:Value)(sz bts:Nat)(cs:List Value):Prop:=
 ∃ (A:Option Addr) (n C:Nat),v=.slice A n C/\cs.length=n * sz/\n * bts<=140737488351232/\((A=none->C=0)/\n<=C) /\
  (0<n->∃ b off,A=some ⟨b,off,none⟩/\P b/\b<w.heap.size/\∀ j u,cs[j]?=some u->w.cell? ⟨b,off+j,none⟩=some u)
section
variable {P P':Nat->Prop} {w w':World} {v:Value} {sz bts:Nat} {cs:List Value}
theorem Rep.nil(P:Nat->Prop)(w:World)(sz bts:Nat):Rep P w (.slice none 0 0) sz bts []:=⟨none,0,0,rfl,by simp,by simp,⟨fun _=>rfl,Nat.le_refl _⟩,fun h=>absurd h (by omega)⟩
theorem Rep.mono(h:Rep P w v sz bts cs)(hp:∀ b,b<w.heap.size->P b->P' b):Rep P' w v sz bts cs:=by
 obtain⟨A,n,C,h1,h2,h3,h4,h5⟩:=h;refine⟨A,n,C,h1,h2,h3,h4,fun h0=>?_⟩;obtain⟨b,off,a1,a2,a3,a4⟩:=h5 h0;exact⟨b,off,a1,hp b a3 a2,a3,a4⟩
theorem Rep.keep(h:Rep P w v sz bts cs)(hk:∀ b,P b->b<w.heap.size->w'.heap[b]?=w.heap[b]?):Rep P w' v sz bts cs:=by
 obtain⟨A,n,C,h1,h2,h3,h4,h5⟩:=h;refine⟨A,n,C,h1,h2,h3,h4,fun h0=>?_⟩;obtain⟨b,off,a1,a2,a3,a4⟩:=h5 h0
 have hlt:b<w'.heap.size:=by
  have e:=hk b a2 a3;rw[Array.getElem?_eq_getElem a3]at e;exact (Array.getElem?_eq_some_iff.1 e).1
 refine⟨b,off,a1,a2,hlt,fun j u hu=>?_⟩;rw[← a4 j u hu];exact World.cell?_of_block (w:=w) (a:=⟨b,off+j,none⟩) (hk b a2 a3)
theorem Rep.over(h:Rep P w v sz bts cs)(hb:Below w.heap.size w w'):Rep P w' v sz bts cs:=h.keep fun b _ hlt=>hb.block b hlt
theorem Rep.open(h:Rep P w v sz bts cs){n:Nat}(hn:cs.length=n * sz)(hz:0<sz):∃ (A:Option Addr) (C:Nat),v=.slice A n C/\n * bts<=140737488351232/\(A=none->n=0/\C=0)/\(0<n->∃ b off,A=some ⟨b,off,none⟩/\P b/\b<w.heap.size/\∀ j u,cs[j]?=some u->w.cell? ⟨b,off+j,none⟩=some u)/\(∀ ad,A=some ad->∀ j u,cs[j]?=some u->w.cell? (ad.add j)=some u):=by
 obtain⟨A,m,C,h1,h2,h3,h4,h5⟩:=h;have e:m=n:=Nat.eq_of_mul_eq_mul_right hz (h2.symm.trans hn);subst e;refine⟨A,C,h1,h3,fun e=>⟨?_,h4.1 e⟩,h5,fun ad e j u hu=>?_⟩
 ·rcases Nat.eq_zero_or_pos m with h0 | h0
  ·exact h0
  ·obtain⟨b,off,a1,_⟩:=h5 h0;rw[a1]at e;cases e
 ·rcases Nat.eq_zero_or_pos m with h0 | h0
  ·subst h0;have:=(List.getElem?_eq_some_iff.1 hu).1;omega
  ·obtain⟨b,off,a1,_,_,a4⟩:=h5 h0;rw[a1]at e;cases e;rw[Addr.add_lit];exact a4 j u hu
theorem Rep.room(h:Rep P w v sz bts cs){A:Option Addr}{n C:Nat}(hv:v=.slice A n C):n<=C/\(A=none->C=0):=by
 obtain⟨A',n',C',h1,_,_,h4,_⟩:=h;rw[hv]at h1;cases h1;exact⟨h4.2,h4.1⟩
theorem Rep.own{base n:Nat}{e:TypeId}(h:w.ownsRow base e sz v n cs)(hb:n * bts<=140737488351232):Rep (fun b=>base<=b) w v sz bts cs:=by
 rcases h.2 with⟨hv,hn⟩ | ⟨g,cap,cur,hv,h1,h2,h3,_⟩
 ·exact⟨none,0,0,hv,by rw[h.1,hn],by omega,⟨fun _=>rfl,Nat.le_refl _⟩,fun h=>absurd h (by omega)⟩
 ·subst hv;refine⟨_,n,cap,rfl,h.1,hb,⟨fun h=>(by cases h),h3⟩,fun _=>⟨g,0,rfl,h1,(Array.getElem?_eq_some_iff.1 h2).1,fun j u hu=>?_⟩⟩
  have:=World.ownsRow.cells h (g:=g) rfl j u hu
  rwa [Addr.add_lit]at this
end
def pwC(l:List (Int×Int)):List Value:=l.flatMap fun x=>[.int .i64 x.1,.int .i64 x.2]
def inC(l:List Int):List Value:=l.map (.int .i64)
def txC(l:List ByteArray):List Value:=l.map .string
theorem z0c:∀ l:List (Int×Int),(pwC l).length=l.length * 2
 | []=>rfl
 | x :: l=>by show (_ ++ pwC l).length=_;rw[List.length_append,z0c l,List.length_cons];simp;omega
theorem z0r(l:List Int):(inC l).length=l.length * 1:=by simp[inC]
theorem z2c(l:List ByteArray):(txC l).length=l.length * 1:=by simp[txC]
theorem z2h:∀ (l:List (Int×Int)) (i:Nat),i<l.length->(pwC l)[i * 2]?=some (.int .i64 (l.getD i (0,0)).1)/\(pwC l)[i * 2+1]?=some (.int .i64 (l.getD i (0,0)).2)
 | [],i,h=>absurd h (by simp)
 | x :: l,0,_=>⟨rfl,rfl⟩
 | x :: l,i+1,h=>by
  have:=z2h l i (by simpa using h)
  rw[show (i+1) * 2=i * 2+2 by omega]
  exact this
theorem z4J(l:List Int)(i:Nat)(h:i<l.length):(inC l)[i]?=some (.int .i64 (l.getD i 0)):=by simp[inC,List.getD,h]
theorem z7x(l:List ByteArray)(i:Nat)(h:i<l.length):(txC l)[i]?=some (.string (l.getD i ByteArray.empty)):=by simp[txC,List.getD,h]
theorem z6t(l:List (Int×Int)):∀ u∈pwC l,u.oneCell'=true:=fun u hu=>by
 simp only[pwC,List.mem_flatMap,List.mem_cons,List.not_mem_nil,or_false]at hu;obtain⟨x,_,rfl | rfl⟩:=hu <;> rfl
structure Pkt where
 k:Int
 i:Int
 v:Int
 n:Int
 S:List (Int×Int)
 D:List Int
def j1c:List Nat->Code->Code
 | [],c=>c
 | 0 :: p,.seq a _=>j1c p a
 | 1 :: p,.seq _ b=>j1c p b
 | _ :: p,.block _ c=>j1c p c
 | _ :: p,.loop c=>j1c p c
 | 1 :: p,.cond _ a _=>j1c p a
 | 2 :: p,.cond _ _ b=>j1c p b
 | _,_=>.skip
end Pv
namespace Ln
open Go.RowKit
structure Line where
 S:List ByteArray
 D:List Int
 g:Int
 cl:Bool
def z1b(w:World)(b off:Nat)(l:List Int):Prop:=∀ i,i<l.length->w.cell? ⟨b,off+i,none⟩=some (.int .i64 (l.getD i 0))
def z3B(w:World)(b off:Nat)(l:List ByteArray):Prop:=∀ i,i<l.length->w.cell? ⟨b,off+i,none⟩=some (.string (l.getD i ByteArray.empty))
theorem z1b.z4L{B:Nat}{w w':World}{b off:Nat}{l:List Int}(h:z1b w b off l)(hb:Below B w w')(hB:0<l.length->b<B):z1b w' b off l:=fun i hi =>
 (hb.cell (p:=⟨b,off+i,none⟩) (hB (by omega))).trans (h i hi)
theorem z3B.z4L{B:Nat}{w w':World}{b off:Nat}{l:List ByteArray}(h:z3B w b off l)(hb:Below B w w')(hB:0<l.length->b<B):z3B w' b off l:=fun i hi =>
 (hb.cell (p:=⟨b,off+i,none⟩) (hB (by omega))).trans (h i hi)
theorem z1b.later{w w':World}{b off:Nat}{l:List Int}(h:z1b w b off l)(hb:Below w.heap.size w w'):z1b w' b off l:=fun i hi =>
 (hb.cell (p:=⟨b,off+i,none⟩) (World.block_lt_of_cell? w _ (h i hi))).trans (h i hi)
theorem z3B.later{w w':World}{b off:Nat}{l:List ByteArray}(h:z3B w b off l)(hb:Below w.heap.size w w'):z3B w' b off l:=fun i hi =>
 (hb.cell (p:=⟨b,off+i,none⟩) (World.block_lt_of_cell? w _ (h i hi))).trans (h i hi)
structure LAt(w:World)(x:Line)(sa da:Option Addr)(cs cd sb so db dO:Nat):Prop where
 hls:x.S.length * 16<=140737488351232
 hld:x.D.length * 8<=140737488351232
 hsa:0<x.S.length->sa=some ⟨sb,so,none⟩
 hda:0<x.D.length->da=some ⟨db,dO,none⟩
 ncs:sa=none->cs=0
 ncd:da=none->cd=0
 PS:z3B w sb so x.S
 PD:z1b w db dO x.D
theorem LAt.later{w w':World}{x:Line}{sa da:Option Addr}{cs cd sb so db dO:Nat}(h:LAt w x sa da cs cd sb so db dO)(hb:Below w.heap.size w w'):LAt w' x sa da cs cd sb so db dO:=
 ⟨h.hls,h.hld,h.hsa,h.hda,h.ncs,h.ncd,h.PS.later hb,h.PD.later hb⟩
theorem LAt.ltS{w:World}{x:Line}{sa da:Option Addr}{cs cd sb so db dO:Nat}(h:LAt w x sa da cs cd sb so db dO)(h0:0<x.S.length):sb<w.heap.size:=World.block_lt_of_cell? w _ (h.PS 0 h0)
theorem LAt.ltD{w:World}{x:Line}{sa da:Option Addr}{cs cd sb so db dO:Nat}(h:LAt w x sa da cs cd sb so db dO)(h0:0<x.D.length):db<w.heap.size:=World.block_lt_of_cell? w _ (h.PD 0 h0)
theorem LAt.z4L{B:Nat}{w w':World}{x:Line}{sa da:Option Addr}{cs cd sb so db dO:Nat}(h:LAt w x sa da cs cd sb so db dO)(hb:Below B w w')(hS:0<x.S.length->sb<B)(hD:0<x.D.length->db<B):LAt w' x sa da cs cd sb so db dO:=
 ⟨h.hls,h.hld,h.hsa,h.hda,h.ncs,h.ncd,h.PS.z4L hb hS,h.PD.z4L hb hD⟩
theorem hide{p:Prop}(h:p):Hid p:=h
theorem z0v(w:World)(o:Obj):Below w.heap.size w (w.alloc o):=znw _ o
theorem z2S{w w':World}{o:Obj}(h:Below (w.alloc o).heap.size (w.alloc o) w'):Below w.heap.size w w':=
 (z0v w o).trans (h.mono (by simp))
theorem z2d{w w1 w2:World}(h:Below w.heap.size w w1)(k:Below w1.heap.size w1 w2):Below w.heap.size w w2:=zbt h k
theorem q5P{W w1:World}(hb:Below W.heap.size W w1):(∀ b o,b<W.heap.size->w1.cell? ⟨b,o,none⟩=W.cell? ⟨b,o,none⟩)/\(∀ b o,b<W.heap.size->w1.frozen? ⟨b,o,none⟩=W.frozen? ⟨b,o,none⟩):=
 ⟨fun b o h=>hb.cell (p:=⟨b,o,none⟩) h,fun b o h=>hb.frozen (p:=⟨b,o,none⟩) h⟩
theorem j8K{a b:ByteArray}(h:a≠b):(a.toList == b.toList)=false:=by
 rw[ByteArray.toList_eq,ByteArray.toList_eq]
 simpa using fun h2:a.data.toList=b.data.toList=>h (WideShapes.bytes_inj h2)
def nonneg(l:List Int):Bool:=l.all fun d=>decide (0<=d)
theorem q3e{l:List Int}{k:Nat}(h:nonneg (l.take k)=true)(hl:k<l.length)(hd:0<=l.getD k 0):nonneg (l.take (k+1))=true:=by
 rw[List.take_succ_eq_append_getElem hl]
 simp[List.getD,hl]at hd
 unfold nonneg at *;rw[List.all_append,h]
 simp[hd]
theorem q5a{l:List Int}{k:Nat}(hl:k<l.length)(hd:l.getD k 0<0):nonneg l=false:=by
 simp[List.getD,hl]at hd
 simp only[nonneg,List.all_eq_false,decide_eq_true_eq];exact⟨l[k],List.getElem_mem hl,by omega⟩
def z0T(x:Line):Bool:=decide (x.D.length=x.S.length) && decide (x.S.length<=400) && nonneg x.D && decide (0<=x.g) && decide (x.g<=x.S.length)
def z4f(x:Line):Int:=if z0T x=false then 2 else if x.cl=true then 11 else 0
def z5C(x:Line)(due:Int):Int:=if due<0 then 2 else if z4f x≠0 then z4f x else if 400<=x.S.length then 6 else 0
def z5i(x:Line)(s:ByteArray)(due:Int):Line:=if z5C x due=0 then ⟨x.S ++ [s],x.D ++ [due],x.g,x.cl⟩ else x
def z4v(x:Line)(k:Int)(s:ByteArray)(said now:Int):Int:=
 if z4f x≠0 then z4f x else if k≠x.g+1 then 10 else if said<k∨(x.S.length:Int)<k∨x.S.getD (k - 1).toNat ByteArray.empty≠s then 9
 else if x.D.getD (k - 1).toNat 0<=now then 12 else 0
def z4Z(x:Line)(k:Int)(s:ByteArray)(said now:Int):Line:=if z4v x k s said now=0 then ⟨x.S,x.D,k,x.cl⟩ else x
def z6b(x:Line)(k time got:Int):Int:=
 if z4f x≠0 then z4f x else if k<1∨(x.S.length:Int)<k then 4 else if k<=got then 5 else if time<x.D.getD (k - 1).toNat 0 then 13 else 0
def z7d(x:Line)(k time got:Int):Line:=if z6b x k time got=0 then ⟨x.S,x.D,x.g,true⟩ else x
theorem z7z{x:Line}(h:z0T x=true):x.D.length=x.S.length/\x.S.length<=400/\0<=x.g/\x.g<=x.S.length:=by
 simp[z0T]at h
 omega
theorem z8j{x:Line}(h:z4f x=0):z0T x=true/\x.cl=false:=by
 unfold z4f at h
 split at h
 ·omega
 split at h
 ·omega
 exact⟨by simpa using ‹¬ z0T x=false›,by simpa using ‹¬ x.cl=true›⟩
theorem q2e(x:Line) :
  (x.D.length≠x.S.length/\z0T x=false)∨(x.D.length=x.S.length/\400<x.S.length/\z0T x=false) ∨
  (x.D.length=x.S.length/\x.S.length<=400/\(nonneg x.D=false->z0T x=false)/\(nonneg x.D=true->z0T x=(decide (0<=x.g) && decide (x.g<=x.S.length)))):=by
 by_cases h1:x.D.length=x.S.length
 ·right
  by_cases h2:x.S.length<=400
  ·right
   exact⟨h1,h2,fun h3=>by simp[z0T,h3],fun h3=>by simp[z0T,h1,h2,h3]⟩
  ·left
   exact⟨h1,by omega,by simp[z0T,h2]⟩
 ·left
  exact⟨h1,by simp[z0T,h1]⟩
theorem z0o(x:Line)(sa da:Option Addr)(cs cd sb so db dO:Nat)(w:World)(L:LAt w x sa da cs cd sb so db dO) :
  Calls prog 145 #[.agg #[.slice sa x.S.length cs,.slice da x.D.length cd,.int .i64 x.g,.bool x.cl]] w fun e w'=>e=.returned (.bool (z0T x))/\Below w.heap.size w w':=by
 obtain⟨S,D,g,cl⟩:=x;have hcs:=q2e ⟨S,D,g,cl⟩;obtain⟨hls,hld,hsa,hda,-,-,PS,PD⟩:=L;have HB0:Hid (∀ o,Below w.heap.size w (w.alloc o)):=fun o=>z0v w o;have HDA:Hid (0<D.length->da=some ⟨db,dO,none⟩):=hda;have HPD:Hid (z1b w db dO D):=PD;clear hsa hda PS PD;dsimp only at *;generalize z0T ⟨S,D,g,cl⟩=G at *
 rcases hcs with⟨h1,rfl⟩ | ⟨h1,h2,rfl⟩ | ⟨h1,h2,h3,h4⟩
 ·have hne:((D.length:Int) != (S.length:Int))=true:=by simp;omega
  clear h1
  go_enter func145,ntmps145
  go_wp2;go_ret;exact⟨rfl,HB0.out _⟩
 ·have hne:((D.length:Int) != (S.length:Int))=false:=by simp;omega
  clear h1
  go_enter func145,ntmps145
  go_wp2;go_ret;exact⟨rfl,HB0.out _⟩
 ·have hne:((D.length:Int) != (S.length:Int))=false:=by simp;omega
  have hd2:D.length<=400:=by omega
  have HG:Hid ((nonneg D=false->G=false)/\(nonneg D=true->G=(decide (0<=g) && decide (g<=S.length)))):=⟨h3,h4⟩;clear h1 h3 h4
  go_enter func145,ntmps145
  go_wp2
  go_loop [21] (fun i=>∃ (k:Nat),k<=D.length/\i=.int .i64 (k:Int)/\Hid (nonneg (D.take k)=true)) (fun i=>D.length - (intOf i).toNat)
  case atStart=>exact⟨0,Nat.zero_le _,rfl,by simp[Hid,nonneg]⟩
  case round =>
   obtain⟨k,hk,rfl,HR⟩:=hrel
   by_cases hlt:k<D.length
   ·have hcell:=(HPD.out.later (HB0.out (.cells #[.slice sa S.length cs,.slice da D.length cd,.int .i64 g,.bool cl] 47))) k hlt;obtain⟨y,hy⟩:∃ y,D.getD k 0=y:=⟨_,rfl⟩;rw[hy]at hcell;have HY:Hid (D.getD k 0=y):=hy;clear hy;have e:=HDA.out (by omega)
    subst e
    by_cases hy0:y<0
    ·go_wp2;go_ret;exact⟨by rw[HG.out.1 (q5a hlt (by rw[HY.out];exact hy0))];rfl,HB0.out _⟩
    ·go_wp2
     go_round
     case rel=>exact⟨k+1,by omega,by go_num,q3e HR.out hlt (by rw[HY.out];omega)⟩
     case measure=>simp[intOf];omega
   ·have hG:=HG.out.2 (by have:=HR.out;rwa [List.take_of_length_le (by omega)]at this)
    by_cases hg0:0<=g
    ·by_cases hg1:g<=(S.length:Int)
     ·have HF:Hid (G=true):=by show _=_;rw[hG];simp[hg0,hg1]
      clear hG;go_wp2;go_ret;exact⟨by rw[HF.out];rfl,HB0.out _⟩
     ·have HF:Hid (G=false):=by show _=_;rw[hG];simp[hg1]
      clear hG;go_wp2;go_ret;exact⟨by rw[HF.out];rfl,HB0.out _⟩
    ·have HF:Hid (G=false):=by show _=_;rw[hG];simp[hg0]
     clear hG;go_wp2;go_ret;exact⟨by rw[HF.out];rfl,HB0.out _⟩
theorem q2a(x:Line)(sa da:Option Addr)(cs cd sb so db dO:Nat)(w:World)(L:LAt w x sa da cs cd sb so db dO) :
  Calls prog 129 #[.agg #[.slice sa x.S.length cs,.slice da x.D.length cd,.int .i64 x.g,.bool x.cl]] w fun e w'=>e=.returned (.int .i64 (z4f x))/\Below w.heap.size w w':=by
 have hg:=z0o x sa da cs cd sb so db dO _ (L.later (z0v w (.cells #[.slice sa x.S.length cs,.slice da x.D.length cd,.int .i64 x.g,.bool x.cl] 47)));clear L;obtain⟨S,D,g,cl⟩:=x;unfold z4f;dsimp only at *;generalize z0T ⟨S,D,g,cl⟩=G at *;cases G <;> cases cl
 all_goals go_enter func129,ntmps129
 all_goals go_wp2_with (go_at_call 145;refine hg.mono ?_;rintro e w1⟨rfl,hb⟩;obtain⟨hc,hf⟩:=q5P hb;have HB1:Hid (Below w.heap.size w w1):=z2S hb;clear hb)
 all_goals go_ret
 all_goals exact⟨rfl,HB1.out⟩
theorem j0D(x:Line)(sa da:Option Addr)(cs cd:Nat)(k:Int)(w:World) :
  Calls prog 130 #[.agg #[.slice sa x.S.length cs,.slice da x.D.length cd,.int .i64 x.g,.bool x.cl],.int .i64 k] w fun e w'=>e=.returned (.bool (decide (1<=k) && decide (k<=x.S.length)))/\Below w.heap.size w w':=by
 obtain⟨S,D,g,cl⟩:=x;dsimp only at *
 by_cases h1:1<=k
 ·by_cases h2:k<=(S.length:Int)
  ·rw[show (decide (1<=k) && decide (k<=(S.length:Int)))=true by simp[h1,h2]]
   go_enter func130,ntmps130
   go_wp2;go_ret;exact⟨rfl,z0v _ _⟩
  ·rw[show (decide (1<=k) && decide (k<=(S.length:Int)))=false by simp[h2]]
   go_enter func130,ntmps130
   go_wp2;go_ret;exact⟨rfl,z0v _ _⟩
 ·rw[show (decide (1<=k) && decide (k<=(S.length:Int)))=false by simp[h1]]
  go_enter func130,ntmps130
  go_wp2;go_ret;exact⟨rfl,z0v _ _⟩
end Ln
section
open Go.RowKit
structure z2A(w:World)(ao:Option Addr)(b o:Nat)(W:List Wt):Prop where
  adr:0<W.length->ao=some ⟨b,o,none⟩
  len:W.length * 64<=140737488351232
  cell:∀ i x,W[i]?=some x->w.cell? ⟨b,o+i * 8,none⟩=some (.int .i64 x.num)/\w.cell? ⟨b,o+i * 8+1,none⟩=some (.int .i64 x.d)/\w.cell? ⟨b,o+i * 8+2,none⟩=some (.int .i64 x.v)/\w.cell? ⟨b,o+i * 8+3,none⟩=some (.int .i64 x.amt) /\
    w.cell? ⟨b,o+i * 8+4,none⟩=some (.int .i64 x.hei)/\w.cell? ⟨b,o+i * 8+5,none⟩=some (.int .i64 x.due)/\w.cell? ⟨b,o+i * 8+6,none⟩=some (.int .i64 x.h0)/\w.cell? ⟨b,o+i * 8+7,none⟩=some (.int .i64 x.h1)
theorem z2A.later{w w':World}{ao:Option Addr}{b o B:Nat}{W:List Wt}(h:z2A w ao b o W)(hb:Below B w w')(hB:0<W.length->b<B):z2A w' ao b o W:=by
  refine⟨h.adr,h.len,fun i x hx=>?_⟩;have hlt:b<B:=hB (by have:=(List.getElem?_eq_some_iff.1 hx).1;omega)
  have k:∀ o,w'.cell? ⟨b,o,none⟩=w.cell? ⟨b,o,none⟩:=fun o=>hb.cell hlt;obtain⟨h0,h1,h2,h3,h4,h5,h6,h7⟩:=h.cell i x hx;exact⟨(k _).trans h0,(k _).trans h1,(k _).trans h2,(k _).trans h3,(k _).trans h4,(k _).trans h5,(k _).trans h6,(k _).trans h7⟩
theorem z2A.lt{w:World}{ao:Option Addr}{b o:Nat}{W:List Wt}(h:z2A w ao b o W)(h0:0<W.length):b<w.heap.size:=by
  obtain⟨x,hx⟩:∃ x,W[0]?=some x:=⟨W[0],List.getElem?_eq_getElem h0⟩;exact World.block_lt_of_cell? w _ (h.cell 0 x hx).1
theorem z2A.over{w w':World}{ao:Option Addr}{b o:Nat}{W:List Wt}(h:z2A w ao b o W)(hb:Below w.heap.size w w'):z2A w' ao b o W:=h.later hb h.lt
theorem drop_at{α:Type}{l:List α}{k:Nat}(h:k<l.length):∃ x,l[k]?=some x/\l.drop k=x :: l.drop (k+1):=⟨l[k],List.getElem?_eq_getElem h,List.drop_eq_getElem_cons h⟩
theorem z9z(d:Int)(w:World):Calls prog 105 #[.int .i64 d] w fun e w'=>e=.returned (.bool (decide (0<d) && inA d))/\w=w':=by
  have i1:=z5n d;generalize inA d=t at *
  go_enter func105,ntmps105
  go_wp2_with (go_at_call 147;refine (i1 _).mono ?_;rintro e w5⟨rfl,rfl⟩)
  all_goals (go_ret;refine⟨?_,rfl⟩;congr 1;congr 1;first | (simp_all;done) | (simp_all;omega) | (simp_all;intros;omega))
theorem z9L(W:List Wt)(ao:Option Addr)(b o c:Nat)(next:Int)(w:World)(h:z2A w ao b o W) :
    Calls prog 140 #[.slice ao W.length c,.int .i64 next] w fun e w'=>e=.returned (.bool (wOk next 0 W))/\Below w.heap.size w w':=by
  have hlen:=h.len;have HW:Hid (z2A w ao b o W):=h;have hadr:=h.adr;clear h
  go_enter func140,ntmps140
  go_wp2
  go_loopw [5,10] (fun s5 i wl=>∃ (k:Nat) (last:Int),k<=W.length/\i=.int .i64 (k:Int)/\s5=.int .i64 last/\Hid (wOk next 0 W=wOk next last (W.drop k)/\Below w.heap.size w wl)) (fun _ i _=>W.length - (intOf i).toNat)
  case atStart=>exact⟨0,0,Nat.zero_le _,rfl,rfl,rfl,Below.refl _ _⟩
  case round =>
    obtain⟨k,last,hk,rfl,rfl,HR⟩:=hrel
    by_cases hlt:k<W.length
    · obtain⟨x,hx,hd⟩:=drop_at hlt
      have HB:Hid (Below w.heap.size w wr):=HR.out.2;obtain⟨c0,c1,c2,c3,c4,c5,c6,c7⟩:=(HW.out.over HB.out).cell k x hx;have HE:Hid (wOk next 0 W=(q0W last next x && wOk next x.num (W.drop (k+1)))):=by have:=HR.out.1;rw[hd]at this;exact this
      clear HR hd;obtain rfl:=hadr (by omega)
      clear hadr;have hsz:w.heap.size<=wr.heap.size:=HB.out.size;have j1:=z9D x.d;have j2:=z7M x.v;have j3:=z5n x.amt;have HO:Hid (∀ last,q0W last next x=(decide (last<x.num) && decide (x.num<next) && isD x.d && isV x.v && inA x.amt && decide (0<=x.hei) && decide (0<=x.due))):=fun _=>rfl
      generalize isD x.d=t1 at *;generalize isV x.v=t2 at *;generalize inA x.amt=t3 at *
      go_wp2_with (first
        | (go_at_call 146;refine (j1 _).mono ?_;rintro e w5⟨rfl,rfl⟩)
        | (go_at_call 48;refine (j2 _).mono ?_;rintro e w6⟨rfl,rfl⟩)
        | (go_at_call 147;refine (j3 _).mono ?_;rintro e w7⟨rfl,rfl⟩))
      all_goals first
        | (go_ret;refine⟨?_,HB.out.alloc hsz _⟩;rw[HE.out,HO.out];congr 1;congr 1;first | (simp_all;done) | (simp_all;omega) | (simp_all;intros;omega))
        | (go_roundw
           case rel=>exact⟨k+1,x.num,by omega,by go_num,rfl,(by rw[HE.out,HO.out];simp_all),HB.out.alloc hsz _⟩
           case measure=>simp[intOf];omega)
    · go_wp2
      go_ret;refine⟨?_,HR.out.2⟩;rw[HR.out.1,List.drop_eq_nil_of_le (by omega)]
      rfl
end
section
def z0R(s:St)(d v n:Int):St×Int:=
 if z0U s d v=0 then
  if (s.V v.toNat).dead=true then (s,15)
  else if (decide (0<n) && inA n)=true then
   if shE (s.V v.toNat) n=0 then
    if (z2B s.b d n).2=0 then (q3u { s with b:=(z2B s.b d n).1 } d.toNat v.toNat n (shN (s.V v.toNat) n),0)
    else (s,(z2B s.b d n).2)
   else (s,shE (s.V v.toNat) n)
  else (s,2)
 else (s,z0U s d v)
end
namespace Ra
open Go.RowKit
theorem q5H(lo y:Int)(l0:0<=lo)(l1:lo<18446744073709551616)(hy0:0<y)(_hy:y<9223372036854775808)(w:World) :
  Calls prog 171 #[.int .u64 0,.int .u64 lo,.int .u64 y] w fun e w'=>∃ r,e=.returned (.tuple #[.int .u64 (lo / y),.int .u64 r])/\Below w.heap.size w w':=by
 have t1:(y == 0)=false:=by simp;omega
 have t1':¬ y=0:=by omega
 have t2:¬ y<=0:=by omega
 have ed:lo.tdiv y=lo / y:=Int.tdiv_eq_ediv_of_nonneg l0;have b0:0<=lo / y:=Int.ediv_nonneg l0 (by omega)
 have b1:lo / y<=lo:=Int.ediv_le_self _ l0;obtain⟨q,hq⟩:∃ q,lo / y=q:=⟨_,rfl⟩;rw[hq]at ed b0 b1 ⊢;have eq:IntKind.u64.wrap q=q:=by rw[IntKind.wrap_u64];omega
 go_enter func171,ntmps171
 go_wp2;go_quiet (fail);go_wp2;go_ret2;exact⟨_,rfl,⟨rfl,rfl,rfl,Nat.le_refl _,fun _ _=>rfl⟩⟩
theorem y0s(hi lo y:Int)(h0:0<=hi)(h1:hi<y)(l0:0<=lo)(l1:lo<18446744073709551616)(hy:y<9223372036854775808)(w:World) :
  Calls prog 171 #[.int .u64 hi,.int .u64 lo,.int .u64 y] w fun e w'=>∃ r,e=.returned (.tuple #[.int .u64 ((hi * 18446744073709551616+lo) / y),.int .u64 r])/\Below w.heap.size w w':=by
 by_cases hz:hi=0
 ·subst hz;have e:0 * 18446744073709551616+lo=lo:=by omega
  rw[e];exact q5H lo y l0 l1 h1 hy w
 ·obtain⟨hn,rfl⟩:=Int.eq_ofNat_of_zero_le h0;obtain⟨ln,rfl⟩:=Int.eq_ofNat_of_zero_le l0;obtain⟨yn,rfl⟩:=Int.eq_ofNat_of_zero_le (show 0<=y by omega)
  obtain⟨s,hs,hs1,hs2,hY1,hY2⟩:=q8r yn (by omega) (by omega)
  obtain⟨e,b1,b2,b3⟩:=q5O hn ln yn s hs1 hs2 (by omega) (by omega) hY2
  have hc:∀ w,Calls prog 194 #[.int .u64 (yn:Int)] w fun e w'=>e=.returned (.int .i64 s)/\w'=w:=fun w=>by
   have:=q9z yn (by omega) (by omega) w
   rwa [show (64:Int) - (bitLen yn:Int)=(s:Int) by omega]at this
  have hp:((2 ^ s:Nat):Int)=(2:Int) ^ s:=by rw[Int.natCast_pow];rfl
  have hp':((2 ^ (64 - s):Nat):Int)=(2:Int) ^ (64 - s):=by rw[Int.natCast_pow];rfl
  have b4:ln / 2 ^ (64 - s)<=ln:=Nat.div_le_self _ _;obtain⟨Y,eY⟩:∃ Y,yn * 2 ^ s=Y:=⟨_,rfl⟩;obtain⟨u,eu⟩:∃ u,hn * 2 ^ s+ln / 2 ^ (64 - s)=u:=⟨_,rfl⟩;obtain⟨N,eN⟩:∃ N,ln * 2 ^ s % 18446744073709551616=N:=⟨_,rfl⟩;have hN:N<18446744073709551616:=by omega
  have hor:=j6A hn (ln / 2 ^ (64 - s)) s b2 b3 (by omega)
  rw[eu]at e b1 hor;rw[eY]at hY1 hY2 b1;rw[eN]at e
  have c:=q5t (hn:Int) (ln:Int) (yn:Int) (Y:Int) ((Y:Int) / 4294967296) ((Y:Int) % 4294967296) ((hn * 2 ^ s:Nat):Int) ((ln / 2 ^ (64 - s):Nat):Int) (u:Int) (N:Int) ((N:Int) / 4294967296) ((N:Int) % 4294967296)
   _ _ _ s (by omega) h1 hs1 hs2
   (by rw[← hp,← Int.natCast_mul,eY,IntKind.wrap_u64];omega) rfl (and_low32 _ (by omega) (by omega))
   (by rw[← hp,← Int.natCast_mul,IntKind.wrap_u64];omega) (by rw[← hp',← Int.natCast_ediv]) hor
   (by rw[← hp,← Int.natCast_mul,IntKind.wrap_u64,← eN];omega) rfl (and_low32 _ (by omega) (by omega))
   (by omega) (by omega) (by omega) (by omega) (by omega) (by show _=_;omega) (by show _<_;omega) (by omega) (by omega) (by omega) (by omega) rfl rfl rfl hc w
  have eYY:(Y:Int) / 4294967296 * 4294967296+(Y:Int) % 4294967296=(Y:Int):=by omega
  rw[eYY,q4O _ _ _ _ (by omega)]at c
  have eNN:(u:Int) * 18446744073709551616+(N:Int) / 4294967296 * 4294967296+(N:Int) % 4294967296=((hn:Int) * 18446744073709551616+(ln:Int)) * (2:Int) ^ s:=by
   have:(u:Int) * 18446744073709551616+(N:Int)=((hn:Int) * 18446744073709551616+(ln:Int)) * (2:Int) ^ s:=by
    rw[← hp];have e':(((hn * 18446744073709551616+ln) * 2 ^ s:Nat):Int)=((u * 18446744073709551616+N:Nat):Int):=by rw[e]
    rw[Int.natCast_mul,Int.natCast_add,Int.natCast_mul,Int.natCast_add,Int.natCast_mul]at e';exact e'.symm
   rw[← this];omega
  rw[eNN,← eY,Int.natCast_mul,hp,q6J _ _ _ (Int.pow_pos (by decide))]at c
  exact c
/-! ### the answers -/
def mdN(a b c:Int):Int:=if a<0∨b<0∨c<1 then 0 else if a * b / c<=1125899906842624 then a * b / c else 0
def mdE(a b c:Int):Int:=if a<0∨b<0∨c<1 then 2 else if a * b / c<=1125899906842624 then 0 else 2
theorem j7R{a b c:Int}(h:a<0∨b<0∨c<1):mdN a b c=0/\mdE a b c=2:=by
 unfold mdN mdE;rw[if_pos h,if_pos h];exact⟨rfl,rfl⟩
theorem j5k{a b c:Int}(h:1125899906842624<a * b / c):mdN a b c=0/\mdE a b c=2:=by
 unfold mdN mdE;have:¬ a * b / c<=1125899906842624:=by omega
 by_cases g:a<0∨b<0∨c<1
 ·rw[if_pos g,if_pos g];exact⟨rfl,rfl⟩
 ·rw[if_neg g,if_neg g,if_neg this,if_neg this];exact⟨rfl,rfl⟩
theorem q8c{a b c:Int}(h1:0<=a)(h2:0<=b)(h3:1<=c)(h:a * b / c<=1125899906842624):mdN a b c=a * b / c/\mdE a b c=0:=by
 unfold mdN mdE;have g:¬ (a<0∨b<0∨c<1):=by omega
 rw[if_neg g,if_neg g,if_pos h,if_pos h];exact⟨rfl,rfl⟩
theorem q0E(a b c:Int)(a0:0<=a)(a1:a<=9223372036854775807)(b0:0<=b)(b1:b<=9223372036854775807)(c0:1<=c)(c1:c<=9223372036854775807)(w:World) :
  Calls prog 148 #[.int .i64 a,.int .i64 b,.int .i64 c] w fun e w'=>e=.returned (.tuple #[.int .i64 (mdN a b c),.int .i64 (mdE a b c)])/\Below w.heap.size w w':=by
 have t1:¬ a<0:=by omega
 have t2:¬ b<0:=by omega
 have t3:¬ c<1:=by omega
 have cm:=y0S a b a0 (by omega) b0 (by omega)
 have hab:0<=a * b:=Int.mul_nonneg a0 b0
 have hab1:a * b<340282366920938463463374607431768211456:=by
  have:=Int.mul_le_mul a1 b1 b0 (by omega)
  omega
 have dv:=Int.mul_ediv_add_emod (a * b) c;have Hgood:Hid (a * b / c<=1125899906842624->mdN a b c=a * b / c/\mdE a b c=0):=fun h=>q8c a0 b0 c0 h;have Hover:Hid (1125899906842624<a * b / c->mdN a b c=0/\mdE a b c=2):=fun h=>j5k h
 have hdv:a * b / 18446744073709551616≥c->1125899906842624<a * b / c:=fun h=>by
  have:1125899906842625<=a * b / c:=by
   rw[Int.le_ediv_iff_mul_le (by omega)]
   omega
  omega
 have hq0:0<=a * b / c:=Int.ediv_nonneg hab (by omega)
 generalize mdN a b c=X at *;generalize mdE a b c=Y at *;clear dv;generalize a * b=p at *;obtain⟨hi,hhi⟩:∃ h,p / 18446744073709551616=h:=⟨_,rfl⟩;obtain⟨lo,hlo⟩:∃ l,p % 18446744073709551616=l:=⟨_,rfl⟩;have hp:hi * 18446744073709551616+lo=p:=by omega
 have hi0:0<=hi:=by omega
 have lo0:0<=lo:=by omega
 have lo1:lo<18446744073709551616:=by omega
 rw[hhi]at hdv cm;rw[hlo]at cm
 by_cases hc:c<=hi
 ·have hX:=Hover.out (hdv hc);obtain⟨rfl,rfl⟩:=hX;clear Hgood Hover hdv hhi hlo hp hab hab1 hq0
  go_enter func148,ntmps148
  go_wp2_with (go_at_call 170;refine (cm _).mono ?_;rintro e w'⟨rfl,rfl⟩)
  go_ret2;exact⟨rfl,⟨rfl,rfl,rfl,Nat.le_refl _,fun _ _=>rfl⟩⟩
 ·have cd:=y0s hi lo c hi0 (by omega) lo0 lo1 (by omega)
  rw[hp]at cd;obtain⟨n,hn⟩:∃ n,p / c=n:=⟨_,rfl⟩;rw[hn]at cd Hgood Hover hq0
  by_cases hm:n<=1125899906842624
  ·obtain⟨rfl,rfl⟩:=Hgood.out hm;have hm':¬ 1125899906842624<X:=by omega
   clear Hgood Hover hdv hhi hlo hp hab hab1 hn
   go_enter func148,ntmps148
   go_wp2_with (first | (go_at_call 170;refine (cm _).mono ?_;rintro e w'⟨rfl,rfl⟩) | (go_at_call 171;refine (cd _).mono ?_;rintro e w'⟨r,rfl,hg⟩))
   go_ret2;exact⟨rfl,hg⟩
  ·obtain⟨rfl,rfl⟩:=Hover.out (by omega)
   have hm':1125899906842624<n:=by omega
   clear Hgood Hover hdv hhi hlo hp hab hab1 hn
   go_enter func148,ntmps148
   go_wp2_with (first | (go_at_call 170;refine (cm _).mono ?_;rintro e w'⟨rfl,rfl⟩) | (go_at_call 171;refine (cd _).mono ?_;rintro e w'⟨r,rfl,hg⟩))
   go_ret2;exact⟨rfl,hg⟩
theorem q5S(a b c:Int)(h:a<0∨b<0∨c<1)(w:World) :
  Calls prog 148 #[.int .i64 a,.int .i64 b,.int .i64 c] w fun e w'=>e=.returned (.tuple #[.int .i64 (mdN a b c),.int .i64 (mdE a b c)])/\Below w.heap.size w w':=by
 obtain⟨e1,e2⟩:=j7R h;rw[e1,e2];clear e1 e2
 by_cases t1:a<0
 ·clear h
  go_enter func148,ntmps148
  go_wp2;go_ret2;exact⟨rfl,⟨rfl,rfl,rfl,Nat.le_refl _,fun _ _=>rfl⟩⟩
 ·by_cases t2:b<0
  ·clear h
   go_enter func148,ntmps148
   go_wp2;go_ret2;exact⟨rfl,⟨rfl,rfl,rfl,Nat.le_refl _,fun _ _=>rfl⟩⟩
  ·have t3:c<1:=by omega
   clear h
   go_enter func148,ntmps148
   go_wp2;go_ret2;exact⟨rfl,⟨rfl,rfl,rfl,Nat.le_refl _,fun _ _=>rfl⟩⟩
theorem j3I(a b c:Int)(a1:a<=9223372036854775807)(b1:b<=9223372036854775807)(c1:c<=9223372036854775807)(w:World) :
  Calls prog 148 #[.int .i64 a,.int .i64 b,.int .i64 c] w fun e w'=>e=.returned (.tuple #[.int .i64 (mdN a b c),.int .i64 (mdE a b c)])/\Below w.heap.size w w':=by
 by_cases h:a<0∨b<0∨c<1
 ·exact q5S a b c h w
 ·exact q0E a b c (by omega) a1 (by omega) b1 (by omega) c1 w
end Ra
section
open Go.RowKit
def j2P(x y:Int):Int:=if x<y then -1 else if y<x then 1 else 0
theorem j5u(x y:Int):j2P x y=if x<y then -1 else if y<x then 1 else 0:=rfl
def j3y(a b:Int×Int):Int:=j2P a.1 b.1
def j7I(a b:Int×Int):Int:=if a.2=b.2 then j3y a b else j2P b.2 a.2
theorem z7y(x:Int)(w:World):Calls prog 189 #[.int .i64 x] w fun e w'=>e=.returned (.bool false)/\w=w':=by
 go_enter func189,ntmps189
 go_wp2;go_ret;exact⟨by simp,rfl⟩
theorem q4C(x y:Int)(w:World):Calls prog 160 #[.int .i64 x,.int .i64 y] w fun e w'=>e=.returned (.int .i64 (j2P x y))/\w=w':=by
 have HC:=hide (j5u x y);generalize j2P x y=r at *
 go_enter func160,ntmps160
 go_wp2_with (go_at_call 189;refine (z7y _ _).mono ?_;rintro e w1⟨rfl,rfl⟩)
 all_goals (go_ret;refine⟨?_,rfl⟩;have h:=HC.out;first | (simp_all;done) | (simp_all;omega) | (rw[h,if_neg (by omega),if_neg (by omega)];rfl) | (rw[h,if_neg (by omega),if_pos (by omega)];rfl) | (rw[h,if_pos (by omega)];rfl))
theorem z6W(a b:Int×Int)(w:World):Calls prog 119 #[.agg #[.int .i64 a.1,.int .i64 a.2],.agg #[.int .i64 b.1,.int .i64 b.2]] w fun e w'=>e=.returned (.int .i64 (j3y a b))/\Below w.heap.size w w':=by
 have hc:=q4C a.1 b.1;unfold j3y;generalize j2P a.1 b.1=r at *
 go_enter func119,ntmps119
 go_wp2_with (go_at_call 160;refine (hc _).mono ?_;rintro e w1⟨rfl,rfl⟩)
 go_ret;exact⟨rfl,(znw _ _).alloc (by simp) _⟩
theorem q2b(a b:Int×Int)(w:World):Calls prog 118 #[.agg #[.int .i64 a.1,.int .i64 a.2],.agg #[.int .i64 b.1,.int .i64 b.2]] w fun e w'=>e=.returned (.int .i64 (j7I a b))/\Below w.heap.size w w':=by
 have hc:=q4C b.2 a.2;have hn:=fun w=>z6W a b w
 by_cases h:a.2=b.2
 ·have e:j7I a b=j3y a b:=if_pos h;rw[e];generalize j3y a b=r at *;have hb:(a.2 != b.2)=false:=by simpa using h
  clear hc;obtain⟨a1,a2⟩:=a;obtain⟨b1,b2⟩:=b;simp only at *;subst h
  go_enter func118,ntmps118
  go_wp2_with (go_at_call 119;refine (hn _).mono ?_;rintro e w1⟨rfl,h1⟩)
  go_ret;exact⟨rfl,((znw _ _).alloc (by simp) _).trans (h1.mono (by simp;omega))⟩
 ·have e:j7I a b=j2P b.2 a.2:=if_neg h;rw[e];generalize j2P b.2 a.2=r at *;have hb:(a.2 != b.2)=true:=by simpa using h
  go_enter func118,ntmps118
  go_wp2_with (go_at_call 160;refine (hc _).mono ?_;rintro e w1⟨rfl,rfl⟩)
  go_ret;exact⟨rfl,(znw _ _).alloc (by simp) _⟩
theorem z6D{n:Int}(h0:-9223372036854775808<=n)(h1:n<9223372036854775808):IntKind.i64.wrap n=n:=by
 rw[IntKind.wrap_i64];omega
abbrev Pw:=Int×Int
def pz:Pw:=(0,0)
def swapAt(l:List Pw)(p:Nat):List Pw:=(l.set (p+1) (l.getD p pz)).set p (l.getD (p+1) pz)
def z8w(lt:Pw->Pw->Bool):Nat->List Pw->List Pw
 | 0,l=>l
 | p+1,l=>if lt (l.getD (p+1) pz) (l.getD p pz)=true then z8w lt p (swapAt l p) else l
def z1r(lt:Pw->Pw->Bool)(l:List Pw):Nat->List Pw
 | 0=>l
 | m+1=>z8w lt (m+1) (z1r lt l m)
def z2G(lt:Pw->Pw->Bool)(l:List Pw):List Pw:=z1r lt l (l.length - 1)
def ltV(a b:Pw):Bool:=decide (j3y a b<0)
def ltP(a b:Pw):Bool:=decide (j7I a b<0)
def z1V(w:World)(g:Nat)(l:List Pw):Prop:=∃ cur,w.heap[g]?=some (.cells cur 68 (0,0))/\∀ i x,l[i]?=some x->cur[i * 2]?=some (.int .i64 x.1)/\cur[i * 2+1]?=some (.int .i64 x.2)
theorem z3o(l:List Pw)(p:Nat):(swapAt l p).length=l.length:=by simp[swapAt]
theorem z8S(lt:Pw->Pw->Bool):∀ (j:Nat) (l:List Pw),(z8w lt j l).length=l.length
 | 0,_=>rfl
 | p+1,l=>by rw[z8w];split;rw[z8S lt p,z3o];rfl
theorem z2a(lt:Pw->Pw->Bool)(l:List Pw):∀ m,(z1r lt l m).length=l.length
 | 0=>rfl
 | m+1=>by rw[z1r,z8S,z2a lt l m]
structure z3f(g:Nat)(w w':World):Prop where
 os:w'.os=w.os
 tape:w'.tape=w.tape
 output:w'.output=w.output
 size:w.heap.size<=w'.heap.size
 block:∀ k,k<w.heap.size->k≠g->w'.heap[k]?=w.heap[k]?
theorem z3f.refl(g:Nat)(w:World):z3f g w w:=⟨rfl,rfl,rfl,Nat.le_refl _,fun _ _ _=>rfl⟩
theorem z3f.trans{g:Nat}{a b c:World}(h:z3f g a b)(k:z3f g b c):z3f g a c:=
 ⟨k.os.trans h.os,k.tape.trans h.tape,k.output.trans h.output,Nat.le_trans h.size k.size,fun i hi hg=>(k.block i (Nat.lt_of_lt_of_le hi h.size) hg).trans (h.block i hi hg)⟩
theorem z3f.of_below{g:Nat}{a b:World}(h:Below a.heap.size a b):z3f g a b:=⟨h.os,h.tape,h.output,h.size,fun k hk _=>h.block k hk⟩
theorem z3f.set{g:Nat}{w w':World}(h:z3f g w w')(o:Nat)(v:Value):z3f g w (w'.setCell ⟨g,o,none⟩ v):=
 ⟨h.os,h.tape,h.output,(by simp[World.setCell];exact h.size),fun k hk hg=>(Below.heap_setCell _ _ _ _ hg).trans (h.block k hk hg)⟩
theorem z3f.drew{g:Nat}{w w':World}(h:z3f g w w'):z3f g w w'.drew:=⟨h.os,h.tape,h.output,h.size,h.block⟩
theorem z3f.drewN{g:Nat}{w w':World}(h:z3f g w w')(n:Nat):z3f g w (w'.drewN n):=⟨h.os,h.tape,h.output,h.size,h.block⟩
theorem z3f.below{g B:Nat}{w w':World}(h:z3f g w w')(hB:B<=g)(hs:B<=w.heap.size):Below B w w':=⟨h.os,h.tape,h.output,h.size,fun k hk=>h.block k (by omega) (by omega)⟩
theorem z1V.later{w w':World}{g:Nat}{l:List Pw}(h:z1V w g l)(hb:Below w.heap.size w w'):z1V w' g l:=by
 obtain⟨cur,hc,hx⟩:=h;exact⟨cur,(hb.block g (Array.getElem?_eq_some_iff.1 hc).1).trans hc,hx⟩
theorem z1V.cell{w:World}{g:Nat}{l:List Pw}(h:z1V w g l){i:Nat}(hi:i<l.length):w.cell? ⟨g,i * 2,none⟩=some (.int .i64 (l.getD i pz).1)/\w.cell? ⟨g,i * 2+1,none⟩=some (.int .i64 (l.getD i pz).2):=by
 obtain⟨cur,hc,hx⟩:=h;have e:l[i]?=some (l.getD i pz):=by simp[List.getD,hi]
 obtain⟨h1,h2⟩:=hx i _ e;simp only[World.cell?,hc]
 simp[h1,h2]
theorem z1V.free{w:World}{g:Nat}{l:List Pw}(h:z1V w g l)(o:Nat):w.frozen? ⟨g,o,none⟩=false:=by
 obtain⟨cur,hc,_⟩:=h
 simp[World.frozen?,hc]
theorem z1V.lt{w:World}{g:Nat}{l:List Pw}(h:z1V w g l):g<w.heap.size:=by
 obtain⟨cur,hc,_⟩:=h;exact (Array.getElem?_eq_some_iff.1 hc).1
theorem z1V.put{w:World}{g:Nat}{l:List Pw}(h:z1V w g l){i:Nat}(hi:i<l.length)(x:Pw):z1V ((w.setCell ⟨g,i * 2,none⟩ (.int .i64 x.1)).setCell ⟨g,i * 2+1,none⟩ (.int .i64 x.2)) g (l.set i x):=by
 have hc0:=h.cell hi;obtain⟨cur,hc,hx⟩:=h
 have s1:i * 2<cur.size:=by
  have:=(hx i _ (List.getElem?_eq_getElem hi)).1;exact (Array.getElem?_eq_some_iff.1 this).1
 have s2:i * 2+1<cur.size:=by
  have:=(hx i _ (List.getElem?_eq_getElem hi)).2;exact (Array.getElem?_eq_some_iff.1 this).1
 refine⟨(cur.setIfInBounds (i * 2) (.int .i64 x.1)).setIfInBounds (i * 2+1) (.int .i64 x.2),?_,fun j y hy=>?_⟩
 ·simp[World.setCell,Array.getElem?_modify,hc]
 ·rw[List.getElem?_set]at hy
  by_cases hj:i=j
  ·subst hj;rw[if_pos rfl,if_pos hi]at hy
   simp at hy
   subst hy
   simp[s1,s2]
  ·rw[if_neg hj]at hy;obtain⟨h1,h2⟩:=hx j y hy;simp only[Array.getElem?_setIfInBounds];rw[if_neg (by omega),if_neg (by omega),if_neg (by omega),if_neg (by omega)]
   exact⟨h1,h2⟩
end
namespace Mt
open Go.RowKit
def I64(a:Int):Prop:=-9223372036854775808<=a/\a<=9223372036854775807
def alw(a:Int):Int:=if a<5 then 1 else a / 5
theorem j6V(a:Int):1<=alw a:=by unfold alw;split <;> omega
theorem z0v(w:World)(o:Obj):Below w.heap.size w (w.alloc o):=znw _ o
theorem z2d{w w1 w2:World}(h:Below w.heap.size w w1)(k:Below w1.heap.size w1 w2):Below w.heap.size w w2:=zbt h k
theorem y1o{a:Int}(h:I64 a)(h5:5<=a):wrap64 (a.tdiv 5)=a / 5:=by
 unfold I64 at h;rw[Int.tdiv_eq_ediv_of_nonneg (by omega)]
 unfold wrap64;omega
theorem y0h{a:Int}(h:I64 a)(h5:a<5):∃ q,wrap64 (a.tdiv 5)=q/\q<1:=by
 refine⟨_,rfl,?_⟩;unfold I64 at h
 by_cases h0:0<=a
 ·rw[Int.tdiv_eq_ediv_of_nonneg (by omega)]
  unfold wrap64;omega
 ·have e:a.tdiv 5=-((-a) / 5):=by
   rw[show a=-(-a) by omega,Int.neg_tdiv,Int.tdiv_eq_ediv_of_nonneg (by omega)]
   simp
  rw[e];unfold wrap64;omega
theorem q2l(a:Int)(h:I64 a)(w:World):Calls prog 19 #[.int .i64 a] w fun e w'=>e=.returned (.int .i64 (alw a))/\w=w':=by
 by_cases h5:a<5
 ·obtain⟨q,hq,hq1⟩:=y0h h h5;rw[show alw a=1 from if_pos h5];clear h5 h
  go_enter func19,ntmps19
  go_wp2;go_ret;exact⟨rfl,rfl⟩
 ·have hq:=y1o h (by omega)
  rw[show alw a=a / 5 from if_neg h5];have hq1:1<=a / 5:=by omega
  generalize a / 5=q at *;clear h5 h
  go_enter func19,ntmps19
  go_wp2;go_ret;exact⟨rfl,rfl⟩
def MAt(w:World)(b:Nat)(l n:Int):Prop:=w.heap[b]?=some (.cells #[.int .i64 l,.int .i64 n] 54)
section
variable {w w':World} {b B:Nat} {l n:Int}
theorem MAt.later(h:MAt w b l n)(hb:Below B w w')(hB:b<B):MAt w' b l n:=(hb.block b hB).trans h
theorem MAt.new(w:World)(l n:Int):MAt (w.alloc (.cells #[.int .i64 l,.int .i64 n] 54)) w.heap.size l n:=heap_alloc_new _ _
theorem MAt.new2(w:World)(o:Obj)(l n:Int):MAt ((w.alloc o).alloc (.cells #[.int .i64 l,.int .i64 n] 54)) (w.heap.size+1) l n:=by
 have:=MAt.new (w.alloc o) l n
 rwa [show (w.alloc o).heap.size=w.heap.size+1 by simp]at this
theorem MAt.lt(h:MAt w b l n):b<w.heap.size:=(Array.getElem?_eq_some_iff.1 h).1
theorem MAt.facts(h:MAt w b l n):(w.cell? ⟨b,0,none⟩=some (.int .i64 l)/\w.cell? ⟨b,1,none⟩=some (.int .i64 n))/\(w.frozen? ⟨b,0,none⟩=false/\w.frozen? ⟨b,1,none⟩=false):=by
 unfold MAt at h
 simp[World.cell?,World.frozen?,h]
theorem MAt.set(h:MAt w b l n)(l' n':Int):MAt ((w.setCell ⟨b,0,none⟩ (.int .i64 l')).setCell ⟨b,1,none⟩ (.int .i64 n')) b l' n':=by
 unfold MAt at *
 simp[World.setCell,Array.getElem?_modify,h]
end
theorem z8a{f:Func}{p:Tmp}(hres:f.results=#[.cell p 54]){w wq:World}{g:Nat}{l n:Int}(R:MAt wq g l n)(H:Below w.heap.size w wq)(act:Act)(h8:act.tmps.getD p undef=.pointer (some ⟨g,0,none⟩))(hd:act.defers=[]) :
  bodyPost prog f (fun e w'=>e=.returned (.agg #[.int .i64 l,.int .i64 n])/\Below w.heap.size w w') Exit.ret act wq:=by
 obtain⟨⟨u0,u1⟩,-⟩:=R.facts;have h8':act.tmps[p]?.getD undef=.pointer (some ⟨g,0,none⟩):=by simpa using h8
 exact bodyPost_ret (v:=.agg #[.int .i64 l,.int .i64 n]) (by simp[results,hres,go_sem,h8',u0,u1]) hd ⟨rfl,H⟩
theorem z8T{f:Func}{p q:Tmp}(hres:f.results=#[.cell p 54,.tmp q]){w wq:World}{g:Nat}{l n:Int}{t:Bool}(R:MAt wq g l n)(H:Below w.heap.size w wq)(act:Act)(h8:act.tmps.getD p undef=.pointer (some ⟨g,0,none⟩))(h9:act.tmps.getD q undef=.bool t)(hd:act.defers=[]) :
  bodyPost prog f (fun e w'=>e=.returned (.tuple #[.agg #[.int .i64 l,.int .i64 n],.bool t])/\Below w.heap.size w w') Exit.ret act wq:=by
 obtain⟨⟨u0,u1⟩,-⟩:=R.facts;have h8':act.tmps[p]?.getD undef=.pointer (some ⟨g,0,none⟩):=by simpa using h8
 have h9':act.tmps[q]?.getD undef=.bool t:=by simpa using h9
 exact bodyPost_ret (v:=.tuple #[.agg #[.int .i64 l,.int .i64 n],.bool t]) (by simp[results,hres,go_sem,h8',h9',u0,u1]) hd ⟨rfl,H⟩
theorem q0q(w:World)(o p:Obj):Below w.heap.size w ((w.alloc o).alloc p):=(z0v w o).alloc (by simp) p
theorem q4s(a t:Int)(h:I64 a)(w:World):Calls prog 36 #[.int .i64 a,.int .i64 t] w fun e w'=>e=.returned (.agg #[.int .i64 (alw a),.int .i64 (wrap64 (t+10))])/\Below w.heap.size w w':=by
 have ha:=q2l a h;generalize alw a=A at *
 go_enter func36,ntmps36
 go_wp2_with (go_at_call 19;refine (ha _).mono ?_;rintro e w2⟨rfl,rfl⟩)
 exact z8a results36 (MAt.new _ _ _) (z0v w _) _ rfl rfl
theorem j0v(l n a t:Int)(h:I64 a)(w:World):Calls prog 82 #[.agg #[.int .i64 l,.int .i64 n],.int .i64 a,.int .i64 t] w fun e w'=>e=.returned (.agg #[.int .i64 (if t<n then l else alw a),.int .i64 (if t<n then n else wrap64 (t+10))])/\Below w.heap.size w w':=by
 have hn:=q4s a t h;generalize alw a=A at *;generalize wrap64 (t+10)=T at *
 by_cases hlt:t<n
 ·rw[if_pos hlt,if_pos hlt]
  go_enter func82,ntmps82
  go_wp2;exact z8a results82 (MAt.new2 _ _ _ _) (q0q w _ _) _ rfl rfl
 ·rw[if_neg hlt,if_neg hlt];have R:=MAt.new2 w (.cells #[.int .i64 l,.int .i64 n] 54) 0 0;have B:=q0q w (.cells #[.int .i64 l,.int .i64 n] 54) (.cells #[.int .i64 0,.int .i64 0] 54)
  go_enter func82,ntmps82
  go_upto_region 3 with fail
  generalize ((w.alloc (.cells #[.int .i64 l,.int .i64 n] 54)).alloc (.cells #[.int .i64 0,.int .i64 0] 54))=w1 at *
  go_wp2_with (go_at_call 36;refine (hn _).mono ?_;rintro e w2⟨rfl,hb⟩;have R2:=R.later hb R.lt;obtain⟨⟨c0,c1⟩,⟨f0,f1⟩⟩:=R2.facts)
  exact z8a results82 (R2.set _ _) (((z2d B hb).setCell (Nat.le_succ _) _).setCell (Nat.le_succ _) _) _ rfl rfl
theorem q8s(l n a:Int)(w:World):Calls prog 176 #[.agg #[.int .i64 l,.int .i64 n],.int .i64 a] w fun e w'=>e=.returned (.tuple #[.agg #[.int .i64 (if l<1 then l else wrap64 (l - a)),.int .i64 n],.bool (if l<1 then false else true)])/\Below w.heap.size w w':=by
 by_cases hlt:l<1
 ·rw[if_pos hlt,if_pos hlt]
  go_enter func176,ntmps176
  go_wp2;exact z8T results176 (MAt.new2 _ _ _ _) (q0q w _ _) _ rfl rfl rfl
 ·rw[if_neg hlt,if_neg hlt]
  go_enter func176,ntmps176
  go_wp2;exact z8T results176 (MAt.new2 _ _ _ _) (q0q w _ _) _ rfl rfl rfl
end Mt
end Go.Proofs.YtmopekkhmhhcaaaGreat
