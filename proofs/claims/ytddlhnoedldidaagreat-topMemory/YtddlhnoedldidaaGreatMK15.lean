/- Parts of the proof. -/
import Derived.Test.YtddlhnoedldidaaGreatML
import Derived.WalkKit
import Derived.Below
import Derived.BigQuiet
import Derived.Deep.QuietTactic
import Derived.OrdersHeld
import Derived.RegionTactic
import Derived.Deep.MidRow
import Derived.WalkSmall
import Derived.Maps.AppendAt
import Derived.Laws.MathBits
import Derived.Laws.Bits64b
import Derived.ProofKit
set_option maxRecDepth 100000
set_option maxHeartbeats 16000000
namespace Go.Proofs.YtddlhnoedldidaaGreat
open Go.Proofs.Tryz
open Value renaming int->J,slice->J1,pointer->J2,bool->J3,agg->J4
open IntKind renaming i64->I
open Obj renaming cells->J5
section
open Go.RowKit
theorem z1o(b:Nat)(w:World):Calls prog 169 #[J2 (some ⟨b,0,none⟩)] w fun e w'=>e=.returned (J2 (some ⟨b,4,none⟩))/\w=w':=by
 go_enter func169,ntmps169
 go_wp2;go_ret;exact⟨rfl,rfl⟩
theorem z1i(b:Nat)(w:World):Calls prog 170 #[J2 (some ⟨b,0,none⟩)] w fun e w'=>e=.returned (J2 (some ⟨b,5,none⟩))/\w=w':=by
 go_enter func170,ntmps170
 go_wp2;go_ret;exact⟨rfl,rfl⟩
theorem z4x(b:Nat)(w:World):Calls prog 192 #[J2 (some ⟨b,0,none⟩)] w fun e w'=>e=.returned (J2 (some ⟨b,6,none⟩))/\w=w':=by
 go_enter func192,ntmps192
 go_wp2;go_ret;exact⟨rfl,rfl⟩
theorem q6r(b c:Nat)(d:Int)(w:World)(h0:0<=d)(h1:d<4)(hc:w.cell? ⟨c,0,none⟩=some (J I d)) :
  Calls prog 168 #[J2 (some ⟨b,0,none⟩),J2 (some ⟨c,0,none⟩)] w fun e w'=>e=.returned (J2 (some ⟨b,d.toNat,none⟩))/\∃ nq,w'=w.drewN nq:=by
 go_enter func168,ntmps168
 go_wp2_with fail
 go_quiet (fail);go_wp2;go_ret;exact⟨rfl,_,rfl⟩
theorem z4s(w:World):Calls prog 147 #[] w fun e w'=>e=.returned (.func (.func 169) #[] #[])/\w=w':=by
 go_enter func147,ntmps147
 go_wp2;go_ret;exact⟨rfl,rfl⟩
theorem z3K(w:World):Calls prog 148 #[] w fun e w'=>e=.returned (.func (.func 170) #[] #[])/\w=w':=by
 go_enter func148,ntmps148
 go_wp2;go_ret;exact⟨rfl,rfl⟩
theorem z7x(w:World):Calls prog 171 #[] w fun e w'=>e=.returned (.func (.func 192) #[] #[])/\w=w':=by
 go_enter func171,ntmps171
 go_wp2;go_ret;exact⟨rfl,rfl⟩
theorem z6d(d:Int)(w:World):Calls prog 146 #[J I d] w fun e w'=>e=.returned (.func (.func 168) #[] #[J2 (some ⟨w.heap.size,0,none⟩)])/\w'=w.alloc (J5 #[J I d] 3):=by
 have b:∀ (a:Fn) (first cap:Array Value) (w:World),(Instr.makeFunc a first cap).run prog w=.ok (.func a first cap) w:=fun _ _ _ _=>rfl
 go_enter func146,ntmps146
 go_wp2;go_ret;exact⟨rfl,rfl⟩
theorem z5w(d:Int)(w:World):Calls prog 144 #[J I d] w fun e w'=>e=.returned (J3 (decide (0<=d/\d<4)))/\w=w':=by
 by_cases h0:0<=d
 ·by_cases h1:d<4
  ·rw[decide_eq_true ⟨h0,h1⟩]
   go_enter func144,ntmps144
   go_wp2;go_ret;exact⟨rfl,rfl⟩
  ·rw[decide_eq_false (fun h=>h1 h.2)];have h2:4<=d:=by omega
   go_enter func144,ntmps144
   go_wp2;go_ret;exact⟨rfl,rfl⟩
 ·rw[decide_eq_false (fun h=>h0 h.1)];have h2:d<0:=by omega
  go_enter func144,ntmps144
  go_wp2;go_ret;exact⟨rfl,rfl⟩
theorem z1p(d:Int)(w:World):Calls prog 142 #[J I d] w fun e w'=>e=.returned (J3 (decide (0<=d/\d<=1125899906842624)))/\w=w':=by
 by_cases h0:0<=d
 ·by_cases h1:d<=1125899906842624
  ·rw[decide_eq_true ⟨h0,h1⟩]
   go_enter func142,ntmps142
   go_wp2;go_ret;exact⟨rfl,rfl⟩
  ·rw[decide_eq_false (fun h=>h1 h.2)];have h2:1125899906842624<d:=by omega
   go_enter func142,ntmps142
   go_wp2;go_ret;exact⟨rfl,rfl⟩
 ·rw[decide_eq_false (fun h=>h0 h.1)];have h2:d<0:=by omega
  go_enter func142,ntmps142
  go_wp2;go_ret;exact⟨rfl,rfl⟩
end
namespace O
open Go
section
variable {P:Program} {md:Region.Mode} {ops:Array Oper} {Q:Exit->Act->World->Prop} {S:World->Prop} {c:Nat}
def q1u(P:Program)(md:Region.Mode)(ops:Array Oper)(Q:Exit->Act->World->Prop)(S:World->Prop)(c:Nat):Nat->Array Bool->Act->World->Prop
 | 0,L,a,w=>Region.ready md ops L=[]/\Q .normal a w
 | n+1,L,a,w=>(Region.ready md ops L=[]->Q .normal a w) /\
  ∀ i∈Region.ready md ops L,wpOp P ops Q i (fun b w'=>(i=c->wpAny P md ops Q n (L.setIfInBounds i true) b w')/\(i≠c->S w'/\q1u P md ops Q S c n (L.setIfInBounds i true) b w')) a w
theorem q2G:∀ (n:Nat) (L:Array Bool) (a:Act) (w:World),q1u P md ops Q S c n L a w->wpAny P md ops Q n L a w
 | 0,_,_,_,h=>h
 | n+1,L,a,w,h=>⟨h.1,fun i d=>wpOp_mono (fun f w' b=>by
   by_cases e:i=c
   ·exact b.1 e
   ·exact q2G n _ f w' (b.2 e).2) (h.2 i d)⟩
structure Shut(md:Region.Mode)(ops:Array Oper)(i c:Nat)(R:Array Bool):Prop where
 noC:R.getD c false=false
 noI:R.getD i false=false
 closed:∀ j o,j≠i->ops[j]?=some o->(∀ e∈o.after,Region.binds md e=true->R.getD e.on false=true)->R.getD j false=true
theorem q5j{i:Nat}{s:Oper}{v:Value}{R:Array Bool}(G:ops[i]?=some s)(m:∀ (j:Nat) (o:Oper) cs b,ops[j]?=some o->o.op≠.select cs b)
  (W:∀ c a w,Q (.panic c) (a.put s.dst v) w->Q (.panic c) a w) (K:Shut md ops i c R) :
  ∀ (n:Nat) (L:Array Bool) (a:Act) (w:World),(∀ j,L.getD j false=true->R.getD j false=true) ->
   (∀ j p,ops[j]?=some p->j≠i->L.getD j true=false->(∀ e∈p.after,Region.binds md e=true->e.on≠i)->s.apart ops p=true) ->
   i∈Region.ready md ops L->YieldsIf P ops S s v a->S w->i≠c ->
   q1u P md ops Q S c n (L.setIfInBounds i true) (a.put s.dst v) w->q1u P md ops Q S c (n+1) L a w:=by
 intro n
 induction n with
 | zero =>
  intro L a w _ _ t D u g H;refine⟨fun h=>(by rw[h]at t;cases t),fun j E=>?_⟩
  by_cases d:j=i
  ·subst d;exact D.wpOp G u ⟨fun e=>absurd e g,fun _=>⟨u,H⟩⟩
  ·have:=ready_mono E d;rw[H.1]at this;cases this
 | succ n ih =>
  intro L a w f hfree t D u g H;refine⟨fun h=>(by rw[h]at t;cases t),fun j E=>?_⟩
  by_cases d:j=i
  ·subst d;exact D.wpOp G u ⟨fun e=>absurd e g,fun _=>⟨u,H⟩⟩
  ·have X:=H.2 j (ready_mono E d);obtain⟨q,p,l,hall⟩:=mem_ready.1 E;have r:R.getD j false=true:=K.closed j p d l fun e M hb=>f _ (hall e M hb);have x:j≠c:=fun e=>by rw[e,K.noC]at r;cases r
   have y:∀ e∈p.after,Region.binds md e=true->e.on≠i:=fun e M hb N=>by
    have:=f _ (hall e M hb);rw[N,K.noI]at this;cases this
   refine wpOp_mono (fun Y w' h3=>⟨fun e=>absurd e x,fun _=>?_⟩) (wpOp_putIf l (hfree j p l d q y) (fun cs b=>m i s cs b G) (fun cs b=>m j p cs b l) W D X);obtain⟨T,-,Z⟩:=h3;obtain⟨z,h5⟩:=Z x;refine⟨z,ih (L.setIfInBounds j true) Y w' (fun k F=>?_) (fun k ok F U A V=>?_) (ready_mono t (Ne.symm d)) T z g ?_⟩
   ·by_cases B:j=k
    ·subst B;exact r
    ·rw[getD_set_ne false B]at F;exact f k F
   ·refine hfree k ok F U ?_ V
    by_cases C:j=k
    ·subst C;exact q
    ·rw[getD_set_ne true C]at A;exact A
   ·rw[Array.setIfInBounds_comm _ _ d];exact h5
def q2W(md:Region.Mode)(ops:Array Oper)(i:Nat):Nat->Array Bool->Array Bool
 | 0,R=>R
 | n+1,R=>q2W md ops i n ((List.range ops.size).map fun j=>R.getD j false || (j != i && match ops[j]? with | some o=>o.after.all (fun e=>!(Region.binds md e) || R.getD e.on false) | none=>false)).toArray
def q8T(md:Region.Mode)(ops:Array Oper)(L:Array Bool)(i c:Nat)(R:Array Bool):Bool:=
 !(R.getD c false) && !(R.getD i false) && (L.size == ops.size) && (List.range ops.size).all fun j=>(!(L.getD j false) || R.getD j false) && (j == i || R.getD j false || match ops[j]? with | some o=>o.after.any (fun e=>Region.binds md e && !(R.getD e.on false)) | none=>true)
theorem z8U{L:Array Bool}{i:Nat}{R:Array Bool}(h:q8T md ops L i c R=true):Shut md ops i c R/\∀ j,L.getD j false=true->R.getD j false=true:=by
 simp only[q8T,Bool.and_eq_true,Bool.not_eq_true',beq_iff_eq,List.all_eq_true,List.mem_range]at h;obtain⟨⟨⟨h1,h2⟩,h3⟩,d⟩:=h;refine⟨⟨h1,h2,fun j o b f hall=>?_⟩,fun j b=>?_⟩
 ·have a:j<ops.size:=(Array.getElem?_eq_some_iff.1 f).1;have:=(d j a).2;rw[f]at this;simp only[Bool.or_eq_true,beq_iff_eq,Array.any_eq_true',Bool.and_eq_true,Bool.not_eq_true']at this
  rcases this with (h | h) | ⟨e,g,hb,k⟩
  ·exact absurd h b
  ·exact h
  ·have:=hall e g hb;rw[k]at this;cases this
 ·by_cases a:j<ops.size
  ·have:=(d j a).1;simp only[Bool.or_eq_true,Bool.not_eq_true']at this
   rcases this with h | h
   ·rw[b]at h;cases h
   ·exact h
  ·have:L.getD j false=false:=by
    simp[Array.getD_eq_getD_getElem?,Array.getElem?_eq_none (show L.size<=j by omega)]
   rw[this]at b;cases b
theorem q6R{i:Nat}{b:Oper}{v:Value}{n:Nat}{L:Array Bool}{a:Act}{w:World}(e:ops[i]?=some b)
  (g:Region.noSelect ops=true) (j:Region.free md ops L i=true) (k:(Region.ready md ops L).contains i=true) (f:q8T md ops L i c (q2W md ops i ops.size L)=true) (d:i≠c)
  (l:∀ c a w,Q (.panic c) (a.put b.dst v) w->Q (.panic c) a w) (m:YieldsIf P ops S b v a) (o:S w)
  (h:q1u P md ops Q S c n (L.setIfInBounds i true) (a.put b.dst v) w):q1u P md ops Q S c (n+1) L a w:=
 q5j e (Region.noSelect_spec g) l (z8U f).1 n L a w (z8U f).2 (Region.free_spec e j) (by simpa using k) m o d h
theorem z1X{o:Oper}{n:Nat}{L:Array Bool}{a:Act}{w:World}(d:Region.ready md ops L=[c])(g:ops[c]?=some o)
  (h:∀ b:Act->World->Prop,(∀ a w,wpAny P md ops Q n (L.setIfInBounds c true) a w->b a w)->if Region.wanted o (yielded ops a.tmps)=true then Oper.wp P o a w b Q else b (a.put o.dst undef) w):q1u P md ops Q S c (n+1) L a w:=by
 refine⟨fun h0=>(by rw[d]at h0;cases h0),fun j f=>?_⟩
 rw[d,List.mem_singleton]at f;subst f;exact wpOp_step g fun b i=>h b fun a w k=>i a w ⟨fun _=>k,fun e=>absurd rfl e⟩
theorem j4d{i:Nat}{o:Oper}{n:Nat}{L:Array Bool}{a:Act}{w:World}(c:Region.ready md ops L=[i])(e:ops[i]?=some o)
  (h:∀ b:Act->World->Prop,(∀ a w,wpAny P md ops Q n (L.setIfInBounds i true) a w->b a w)->if Region.wanted o (yielded ops a.tmps)=true then Oper.wp P o a w b Q else b (a.put o.dst undef) w):wpAny P md ops Q (n+1) L a w:=by
 refine⟨fun h0=>(by rw[c]at h0;cases h0),fun j d=>?_⟩
 rw[c,List.mem_singleton]at d;subst d;exact wpOp_step e fun b f=>h b fun a w g=>f a w g
theorem j3u{i:Nat}{b:Oper}{v:Value}{n:Nat}{L:Array Bool}{a:Act}{w:World}(d:Option Tmp)(f:ops[i]?=some b)(hd:b.dst=d)
  (g:Region.noSelect ops=true) (j:Region.free md ops L i=true) (k:(Region.ready md ops L).contains i=true) (l:q8T md ops L i c (q2W md ops i ops.size L)=true) (e:i≠c)
  (m:∀ c a w,Q (.panic c) (a.put d v) w->Q (.panic c) a w) (o:YieldsIf P ops S b v a) (p:S w)
  (h:q1u P md ops Q S c n (L.setIfInBounds i true) (a.put d v) w):q1u P md ops Q S c (n+1) L a w:=by
 subst hd;exact q6R f g j k l e m o p h
theorem j6k{i:Nat}{b:Oper}{v:Value}{n:Nat}{L:Array Bool}{a:Act}{w:World}(d:Option Tmp)(e:ops[i]?=some b)(hd:b.dst=d)
  (f:Region.noSelect ops=true) (g:Region.free md ops L i=true) (j:(Region.ready md ops L).contains i=true)
  (k:∀ c a w,Q (.panic c) (a.put d v) w->Q (.panic c) a w) (l:Yields P ops b v a)
  (h:wpAny P md ops Q n (L.setIfInBounds i true) (a.put d v) w):wpAny P md ops Q (n+1) L a w:=by
 subst hd;exact wpAny_take e f g j k l h
theorem Y{b:Oper}{n:Nat}{L:Array Bool}{a:Act}{w:World}(i:Nat)(v:Value)(s:Tmp)(e:ops[i]?=some b)(hd:b.dst=some s)(f:S w)
  (g:∀ w,S w->(execOp a.eval b).run P w=.ok (.value v) w) (h:q1u P md ops Q S c n (L.setIfInBounds i true) (a.put (some s) v) w)
  (j:Region.wanted b (yielded ops a.tmps)=true:=by rfl) (k:Region.noSelect ops=true:=by kernel_rfl) (l:Region.free md ops L i=true:=by kernel_rfl) (m:(Region.ready md ops L).contains i=true:=by kernel_rfl) (o:q8T md ops L i c (q2W md ops i ops.size L)=true:=by kernel_rfl) (d:i≠c:=by decide)
  (p:∀ c a w,Q (.panic c) (a.put (some s) v) w->Q (.panic c) a w:=by exact fun _ _ _ h=>h):q1u P md ops Q S c (n+1) L a w:=j3u (some s) e hd k l m o d p (Or.inl ⟨j,g⟩) f h
theorem X{b:Oper}{n:Nat}{L:Array Bool}{a:Act}{w:World}(i:Nat)(v:Value)(s:Tmp)(d:ops[i]?=some b)(hd:b.dst=some s)
  (e:∀ w,(execOp a.eval b).run P w=.ok (.value v) w) (h:wpAny P md ops Q n (L.setIfInBounds i true) (a.put (some s) v) w)
  (f:Region.wanted b (yielded ops a.tmps)=true:=by rfl) (g:Region.noSelect ops=true:=by kernel_rfl) (j:Region.free md ops L i=true:=by kernel_rfl) (k:(Region.ready md ops L).contains i=true:=by kernel_rfl)
  (l:∀ c a w,Q (.panic c) (a.put (some s) v) w->Q (.panic c) a w:=by exact fun _ _ _ h=>h):wpAny P md ops Q (n+1) L a w:=j6k (some s) d hd g j k l (Or.inl ⟨f,e⟩) h
theorem pp{l:List Value}{d:List Deferred}{k:Nat}{v:Value}:Act.put ⟨l.toArray,d⟩ (some k) v=⟨(l.set k v).toArray,d⟩:=by simp[Act.put]
theorem pb{α:Type}{a b:α}{l:List α}:(a :: l).set 0 b=b :: l:=rfl
theorem pc{α:Type}{a b:α}{l:List α}{n:Nat}:(a :: l).set (n+1) b=a :: l.set n b:=rfl
theorem j5W{i:Nat}{o:Oper}{n:Nat}{L:Array Bool}{a:Act}{w:World}(c:Region.ready md ops L=[i])(d:ops[i]?=some o)(e:o.guard=none)
  (h:∀ b:Act->World->Prop,(∀ a w,wpAny P md ops Q n (L.setIfInBounds i true) a w->b a w)->Oper.wp P o a w b Q):wpAny P md ops Q (n+1) L a w:=
 j4d c d fun b f=>by
  have g:Region.wanted o (yielded ops a.tmps)=true:=by simp[Region.wanted,e]
  rw[if_pos g];exact h b f
theorem z1Y{i:Nat}{o:Oper}{n:Nat}{L:Array Bool}{a:Act}{w:World}(d:Region.ready md ops L=[i])(e:ops[i]?=some o)(f:o.guard=none)
  (ty:TypeId) (x y:Operand) (c:o.op=.store ty x y) (hd:o.dst=none) (b off:Nat) (cells:Array Value) (g:a.eval x=J2 (some ⟨b,off,none⟩)) (j:a.eval y=J4 cells)
  (k:w.there b off cells.size) (l:(P.info? ty).map (·.size)=some cells.size) (h1:cells.all (·.oneCell')=true)
  (h:wpAny P md ops Q n (L.setIfInBounds i true) a (w.setCells b off cells.toList)):wpAny P md ops Q (n+1) L a w:=
 j5W d e f fun _ m=>wp_store_mid ty x y c b off cells g j k l h1 (m _ _ (by rw[hd];exact h))
theorem z1l{id:Nat}{a:Act}{w:World}(b:P.follows .mixedOrders=true)(h:q1u P .any ops Q S c ops.size (Array.replicate ops.size false) a w.drew):(Code.region id ops true).wp P Q a w:=
 wp_region_any b (q2G _ _ _ _ h)
end
end O
namespace O
open Go
section
variable {P:Program} {md:Region.Mode} {ops:Array Oper} {Q:Exit->Act->World->Prop} {S:World->Prop} {c:Nat}
theorem q4Y{i:Nat}{p:Oper}{v:Value}(z:ops[i]?=some p)(g:∀ (j:Nat) (o:Oper) cs b,ops[j]?=some o->o.op≠.select cs b)
  (K:∀ c a w,Q (.panic c) (a.put p.dst v) w->Q (.panic c) a w) (s:i≠c) :
  ∀ (n:Nat) (L:Array Bool) (a:Act) (w:World),
   (∀ j q,ops[j]?=some q->j≠i->L.getD j true=false->(∀ e∈q.after,Region.binds md e=true->e.on≠i)->p.apart ops q=true) ->
   i∈Region.ready md ops L->Yields P ops p v a->S w ->
   q1u P md ops Q S c n (L.setIfInBounds i true) (a.put p.dst v) w->q1u P md ops Q S c (n+1) L a w:=by
 intro n
 induction n with
 | zero =>
  intro L a w _ l A C H;refine⟨fun h=>(by rw[h]at l;cases l),fun j B=>?_⟩
  by_cases d:j=i
  ·subst d;exact A.wpOp z ⟨fun e=>absurd e s,fun _=>⟨C,H⟩⟩
  ·have:=ready_mono B d;rw[H.1]at this;cases this
 | succ n ih =>
  intro L a w hfree l A C H;refine⟨fun h=>(by rw[h]at l;cases l),fun j B=>?_⟩
  by_cases d:j=i
  ·subst d;exact A.wpOp z ⟨fun e=>absurd e s,fun _=>⟨C,H⟩⟩
  ·have N:=H.2 j (ready_mono B d);obtain⟨m,q,r,hall⟩:=mem_ready.1 B
   have t:∀ e∈q.after,Region.binds md e=true->e.on≠i:=fun e R hb D=>by
    have h1:=hall e R hb;have h0:=(mem_ready.1 l).1;rw[D]at h1
    rcases Nat.lt_or_ge i L.size with E | E
    ·simp[E]at h0 h1;rw[h0]at h1;cases h1
    ·simp[Array.getElem?_eq_none E]at h1
   have f:∀ k ok,ops[k]?=some ok->k≠i->(L.setIfInBounds j true).getD k true=false ->
     (∀ e∈ok.after,Region.binds md e=true->e.on≠i)->p.apart ops ok=true:=fun k ok T F u G=>by
    refine hfree k ok T F ?_ G
    by_cases x:j=k
    ·subst x;exact m
    ·rw[getD_set_ne true x]at u;exact u
   refine wpOp_mono (fun M w' h3=>⟨fun e=>?_,fun e=>?_⟩) (wpOp_put r (hfree j q r d m t) (fun cs b=>g i p cs b z) (fun cs b=>g j q cs b r) K A N)
   ·refine wpAny_first z g K n (L.setIfInBounds j true) M w' f (ready_mono l (Ne.symm d)) h3.1 ?_;rw[Array.setIfInBounds_comm _ _ d];exact h3.2.1 e
   ·obtain⟨y,U⟩:=h3.2.2 e;refine⟨y,ih (L.setIfInBounds j true) M w' f (ready_mono l (Ne.symm d)) h3.1 y ?_⟩;rw[Array.setIfInBounds_comm _ _ d];exact U
theorem q2k{i:Nat}{b:Oper}{v:Value}{n:Nat}{L:Array Bool}{a:Act}{w:World}(d:Option Tmp)(e:ops[i]?=some b)(hd:b.dst=d)
  (f:Region.noSelect ops=true) (g:Region.free md ops L i=true) (j:(Region.ready md ops L).contains i=true)
  (k:∀ c a w,Q (.panic c) (a.put d v) w->Q (.panic c) a w) (l:YieldsIf P ops S b v a) (m:S w)
  (h:wpAnyH P md ops Q S n (L.setIfInBounds i true) (a.put d v) w):wpAnyH P md ops Q S (n+1) L a w:=by
 subst hd;exact wpAnyH_take e f g j k l m h
theorem Z{b:Oper}{n:Nat}{L:Array Bool}{a:Act}{w:World}(i:Nat)(v:Value)(s:Tmp)(d:ops[i]?=some b)(hd:b.dst=some s)(e:S w)
  (f:∀ w,S w->(execOp a.eval b).run P w=.ok (.value v) w) (h:wpAnyH P md ops Q S n (L.setIfInBounds i true) (a.put (some s) v) w)
  (g:Region.wanted b (yielded ops a.tmps)=true:=by rfl) (j:Region.noSelect ops=true:=by kernel_rfl) (k:Region.free md ops L i=true:=by kernel_rfl) (l:(Region.ready md ops L).contains i=true:=by kernel_rfl)
  (m:∀ c a w,Q (.panic c) (a.put (some s) v) w->Q (.panic c) a w:=by exact fun _ _ _ h=>h):wpAnyH P md ops Q S (n+1) L a w:=q2k (some s) d hd j k l m (Or.inl ⟨g,f⟩) e h
theorem G{b:Oper}{n:Nat}{L:Array Bool}{a:Act}{w:World}(i:Nat)(v:Value)(s:Tmp)(d:ops[i]?=some b)(hd:b.dst=some s)(e:S w)
  (h:wpAnyH P md ops Q S n (L.setIfInBounds i true) (a.put (some s) v) w)
  (f:∀ w,(execOp a.eval b).run P w=.ok (.value v) w:=by intro _;go_simp)
  (g:Region.wanted b (yielded ops a.tmps)=true:=by rfl) (j:Region.noSelect ops=true:=by kernel_rfl) (k:Region.free md ops L i=true:=by kernel_rfl) (l:(Region.ready md ops L).contains i=true:=by kernel_rfl)
  (m:∀ c a w,Q (.panic c) (a.put (some s) v) w->Q (.panic c) a w:=by exact fun _ _ _ h=>h):wpAnyH P md ops Q S (n+1) L a w:=q2k (some s) d hd j k l m (Or.inl ⟨g,fun w _=>f w⟩) e h
theorem U{b:Oper}{n:Nat}{L:Array Bool}{a:Act}{w:World}(i:Nat)(s:Tmp)(d:ops[i]?=some b)(hd:b.dst=some s)(e:S w)
  (h:wpAnyH P md ops Q S n (L.setIfInBounds i true) (a.put (some s) undef) w)
  (f:Region.wanted b (yielded ops a.tmps)=false:=by rfl) (g:Region.noSelect ops=true:=by kernel_rfl) (j:Region.free md ops L i=true:=by kernel_rfl) (k:(Region.ready md ops L).contains i=true:=by kernel_rfl)
  (l:∀ c a w,Q (.panic c) (a.put (some s) undef) w->Q (.panic c) a w:=by exact fun _ _ _ h=>h):wpAnyH P md ops Q S (n+1) L a w:=q2k (some s) d hd g j k l (Or.inr ⟨f,rfl⟩) e h
theorem z0R{i:Nat}{o:Oper}{n:Nat}{L:Array Bool}{a:Act}{w:World}(c:Region.ready md ops L=[i])(e:ops[i]?=some o)(f:o.guard=none)
  (h:∀ b:Act->World->Prop,(∀ a w,S w->wpAnyH P md ops Q S n (L.setIfInBounds i true) a w->b a w)->Oper.wp P o a w b Q):wpAnyH P md ops Q S (n+1) L a w:=by
 refine⟨fun h0=>(by rw[c]at h0;cases h0),fun j d=>?_⟩
 rw[c,List.mem_singleton]at d;subst d;refine wpOp_step e fun b g=>?_;rw[if_pos (show Region.wanted o (yielded ops a.tmps)=true by simp[Region.wanted,f])]
 exact h b fun a w k l=>g a w ⟨k,l⟩
theorem z3j{i j:Nat}{d e:Oper}{n:Nat}{L:Array Bool}{a:Act}{w:World}(q:Region.ready md ops L=[i,j])(f:ops[i]?=some d)(g:d.guard=none)(h:ops[j]?=some e)(l:e.guard=none)
  (h1:∀ b:Act->World->Prop,(∀ a w,S w->wpAnyH P md ops Q S n (L.setIfInBounds i true) a w->b a w)->Oper.wp P d a w b Q)
  (h2:∀ b:Act->World->Prop,(∀ a w,S w->wpAnyH P md ops Q S n (L.setIfInBounds j true) a w->b a w)->Oper.wp P e a w b Q):wpAnyH P md ops Q S (n+1) L a w:=by
 refine⟨fun h0=>(by rw[q]at h0;cases h0),fun k c=>?_⟩
 rw[q]at c
 rcases List.mem_cons.1 c with rfl | c
 ·refine wpOp_step f fun b m=>?_;rw[if_pos (show Region.wanted d (yielded ops a.tmps)=true by simp[Region.wanted,g])]
  exact h1 b fun a w o p=>m a w ⟨o,p⟩
 ·rw[List.mem_singleton]at c;subst c;refine wpOp_step h fun b m=>?_;rw[if_pos (show Region.wanted e (yielded ops a.tmps)=true by simp[Region.wanted,l])]
  exact h2 b fun a w o p=>m a w ⟨o,p⟩
theorem z0n{i:Nat}{o:Oper}{n:Nat}{L:Array Bool}{a:Act}{w:World}(d:Region.ready md ops L=[i])(e:ops[i]?=some o)(f:o.guard=none)
  (ty:TypeId) (x y:Operand) (c:o.op=.store ty x y) (hd:o.dst=none) (b off:Nat) (cells:Array Value) (g:a.eval x=J2 (some ⟨b,off,none⟩)) (j:a.eval y=J4 cells)
  (k:w.there b off cells.size) (l:(P.info? ty).map (·.size)=some cells.size) (h1:cells.all (·.oneCell')=true) (m:S (w.setCells b off cells.toList))
  (h:wpAnyH P md ops Q S n (L.setIfInBounds i true) a (w.setCells b off cells.toList)):wpAnyH P md ops Q S (n+1) L a w:=
 z0R d e f fun _ p=>wp_store_mid ty x y c b off cells g j k l h1 (p _ _ m (by rw[hd];exact h))
theorem z0v{i:Nat}{b:Oper}{v:Value}{n:Nat}{L:Array Bool}{a:Act}{w:World}(d:Option Tmp)(f:ops[i]?=some b)(hd:b.dst=d)
  (g:Region.noSelect ops=true) (j:Region.free md ops L i=true) (k:(Region.ready md ops L).contains i=true) (e:i≠c)
  (l:∀ c a w,Q (.panic c) (a.put d v) w->Q (.panic c) a w) (m:Yields P ops b v a) (o:S w)
  (h:q1u P md ops Q S c n (L.setIfInBounds i true) (a.put d v) w):q1u P md ops Q S c (n+1) L a w:=by
 subst hd;exact q4Y f (Region.noSelect_spec g) l e n L a w (Region.free_spec f j) (by simpa using k) m o h
end
end O
section
open Go.RowKit
def BAt(w:World)(b:Nat)(f0 f1 f2 f3 bo wa bu:Int):Prop:=w.heap[b]?=some (J5 #[J I f0,J I f1,J I f2,J I f3,J I bo,J I wa,J I bu] 35)
section
variable {w w':World} {b B:Nat} {f0 f1 f2 f3 bo wa bu:Int}
theorem BAt.later(h:BAt w b f0 f1 f2 f3 bo wa bu)(hb:Below B w w')(a:b<B):BAt w' b f0 f1 f2 f3 bo wa bu:=(hb.block b a).trans h
theorem BAt.new(w:World)(f0 f1 f2 f3 bo wa bu:Int):BAt (w.alloc (J5 #[J I f0,J I f1,J I f2,J I f3,J I bo,J I wa,J I bu] 35)) w.heap.size f0 f1 f2 f3 bo wa bu:=heap_alloc_new _ _
theorem BAt.other{c o:Nat}(h:BAt w b f0 f1 f2 f3 bo wa bu)(hb:b≠c)(v:Value):BAt (w.setCell ⟨c,o,none⟩ v) b f0 f1 f2 f3 bo wa bu:=(Below.heap_setCell _ _ _ _ hb).trans h
theorem BAt.alloc(h:BAt w b f0 f1 f2 f3 bo wa bu)(o:Obj):BAt (w.alloc o) b f0 f1 f2 f3 bo wa bu:=(Below.heap_alloc _ _ _ (Array.getElem?_eq_some_iff.1 h).1).trans h
theorem BAt.lt(h:BAt w b f0 f1 f2 f3 bo wa bu):b<w.heap.size:=(Array.getElem?_eq_some_iff.1 h).1
theorem BAt.cells(h:BAt w b f0 f1 f2 f3 bo wa bu):w.cell? ⟨b,0,none⟩=some (J I f0)/\w.cell? ⟨b,1,none⟩=some (J I f1)/\w.cell? ⟨b,2,none⟩=some (J I f2)/\w.cell? ⟨b,3,none⟩=some (J I f3)/\w.cell? ⟨b,4,none⟩=some (J I bo)/\w.cell? ⟨b,5,none⟩=some (J I wa)/\w.cell? ⟨b,6,none⟩=some (J I bu):=by
 unfold BAt at h
 simp[World.cell?,h]
theorem BAt.frees(h:BAt w b f0 f1 f2 f3 bo wa bu):w.frozen? ⟨b,0,none⟩=false/\w.frozen? ⟨b,1,none⟩=false/\w.frozen? ⟨b,2,none⟩=false/\w.frozen? ⟨b,3,none⟩=false/\w.frozen? ⟨b,4,none⟩=false/\w.frozen? ⟨b,5,none⟩=false/\w.frozen? ⟨b,6,none⟩=false:=by
 unfold BAt at h
 simp[World.frozen?,h]
theorem BAt.q8q(h:BAt w b f0 f1 f2 f3 bo wa bu)(v:Int):BAt (w.setCell ⟨b,0,none⟩ (J I v)) b v f1 f2 f3 bo wa bu:=by
 unfold BAt at *
 simp[World.setCell,Array.getElem?_modify,h]
theorem BAt.q7m(h:BAt w b f0 f1 f2 f3 bo wa bu)(v:Int):BAt (w.setCell ⟨b,1,none⟩ (J I v)) b f0 v f2 f3 bo wa bu:=by
 unfold BAt at *
 simp[World.setCell,Array.getElem?_modify,h]
theorem BAt.q8y(h:BAt w b f0 f1 f2 f3 bo wa bu)(v:Int):BAt (w.setCell ⟨b,2,none⟩ (J I v)) b f0 f1 v f3 bo wa bu:=by
 unfold BAt at *
 simp[World.setCell,Array.getElem?_modify,h]
theorem BAt.q9i(h:BAt w b f0 f1 f2 f3 bo wa bu)(v:Int):BAt (w.setCell ⟨b,3,none⟩ (J I v)) b f0 f1 f2 v bo wa bu:=by
 unfold BAt at *
 simp[World.setCell,Array.getElem?_modify,h]
theorem BAt.j7g(h:BAt w b f0 f1 f2 f3 bo wa bu)(v:Int):BAt (w.setCell ⟨b,4,none⟩ (J I v)) b f0 f1 f2 f3 v wa bu:=by
 unfold BAt at *
 simp[World.setCell,Array.getElem?_modify,h]
theorem BAt.j5B(h:BAt w b f0 f1 f2 f3 bo wa bu)(v:Int):BAt (w.setCell ⟨b,5,none⟩ (J I v)) b f0 f1 f2 f3 bo v bu:=by
 unfold BAt at *
 simp[World.setCell,Array.getElem?_modify,h]
theorem BAt.j6g(h:BAt w b f0 f1 f2 f3 bo wa bu)(v:Int):BAt (w.setCell ⟨b,6,none⟩ (J I v)) b f0 f1 f2 f3 bo wa v:=by
 unfold BAt at *
 simp[World.setCell,Array.getElem?_modify,h]
def z6s(w:World)(b:Nat)(v0 v1 v2 v3 a c d:Int):World:=((((((w.setCell ⟨b,0,none⟩ (J I v0)).setCell ⟨b,1,none⟩ (J I v1)).setCell ⟨b,2,none⟩ (J I v2)).setCell ⟨b,3,none⟩ (J I v3)).setCell ⟨b,4,none⟩ (J I a)).setCell ⟨b,5,none⟩ (J I c)).setCell ⟨b,6,none⟩ (J I d)
theorem BAt.z6s(h:BAt w b f0 f1 f2 f3 bo wa bu)(v0 v1 v2 v3 a c d:Int):BAt (z6s w b v0 v1 v2 v3 a c d) b v0 v1 v2 v3 a c d:=
 ((((((h.q8q v0).q7m v1).q8y v2).q9i v3).j7g a).j5B c).j6g d
theorem z2Q(h:Below B w w')(a:B<=b)(v0 v1 v2 v3 c d e:Int):Below B w (Go.Proofs.YtddlhnoedldidaaGreat.z6s w' b v0 v1 v2 v3 c d e):=
 ((((((h.setCell a _).setCell a _).setCell a _).setCell a _).setCell a _).setCell a _).setCell a _
end
end
section
open Go.RowKit
def j6h(c:Nat):Value:=.func (.func 168) #[] #[J2 (some ⟨c,0,none⟩)]
def q5H(c:Nat->Nat)(k:Nat):List Value:=[.func (.func 169) #[] #[],.func (.func 170) #[] #[],.func (.func 192) #[] #[]] ++ (List.range k).map (fun j=>j6h (c j))
theorem q4o(c:Nat->Nat)(k X:Nat):q5H (fun j=>if j=k then X else c j) (k+1)=q5H c k ++ [j6h X]:=by
 unfold q5H;rw[List.range_succ,List.map_append,<- List.append_assoc]
 congr 2
 ·apply List.map_congr_left;intro j a;have:j≠k:=by simp at a;omega
  simp[this]
 ·simp
def j7p(w:World)(B:Nat)(c:Nat->Nat)(k:Nat):Prop:=∀ j,j<k->B<=c j/\w.heap[c j]?=some (J5 #[J I j] 3 (0,0))
theorem q8m{w w':World}{B k:Nat}{c:Nat->Nat}{v:Value}{n:Nat}{m:List Value}(q:B<=w.heap.size)(h:j7p w B c k)
  (o:Obj) (r:o=J5 #[J I (k:Int)] 3 (0,0)) (p:Obj) (hown:w.ownsRow B 221 1 v n m) (s:((w.alloc o).alloc p).grownBy w' v.ownBlock) :
  j7p w' B (fun j=>if j=k then w.heap.size else c j) (k+1):=by
 have key:∀ b,b<((w.alloc o).alloc p).heap.size->(∀ g,v.ownBlock=some g->g<w.heap.size/\∃ a,w.heap[g]?=some (J5 a 221 (0,0)))->∀ x,((w.alloc o).alloc p).heap[b]?=some (J5 x 3 (0,0))->w'.heap[b]?=some (J5 x 3 (0,0)):=by
  intro b hb i x l;rw[s.block b hb ?_]
  ·exact l
  ·intro e;obtain⟨d,a,hc⟩:=i b e.symm;rw[Below.heap_alloc _ _ _ (by simp;omega),Below.heap_alloc _ _ _ d,hc]at l
   simp at l
 have i:∀ g,v.ownBlock=some g->g<w.heap.size/\∃ a,w.heap[g]?=some (J5 a 221 (0,0)):=by
  intro g f
  rcases hown.2 with⟨e,_⟩ | ⟨g',cap,a,e,_,hh,_⟩
  ·subst e;simp[Value.ownBlock]at f
  ·subst e
   simp[Value.ownBlock]at f
   subst f;exact⟨(Array.getElem?_eq_some_iff.1 hh).1,a,hh⟩
 intro j t
 by_cases e:j=k
 ·subst e;simp only[if_pos];refine⟨q,key _ (by simp;omega) i _ ?_⟩
  rw[Below.heap_alloc _ _ _ (by simp)]
  subst r;exact heap_alloc_new _ _
 ·simp only[if_neg e];obtain⟨h1,h2⟩:=h j (by omega)
  have d:=(Array.getElem?_eq_some_iff.1 h2).1;refine⟨h1,key _ (by simp;omega) i _ ?_⟩
  rw[Below.heap_alloc _ _ _ (by simp;omega),Below.heap_alloc _ _ _ d]
  exact h2
theorem cell_one_new(w:World)(v:Value)(e:TypeId):∀ (j:Nat) (u:Value),[v][j]?=some u->(w.alloc (J5 #[v] e)).cell? ((⟨w.heap.size,0,none⟩:Addr).add j)=some u:=by
 intro j u h
 match j,h with
 | 0,h=>simp at h;subst h;simp[Addr.add]
theorem cell_two_new(w:World)(o:Obj)(v:Value)(e:TypeId):∀ (j:Nat) (u:Value),[v][j]?=some u->((w.alloc o).alloc (J5 #[v] e)).cell? ((⟨w.heap.size+1,0,none⟩:Addr).add j)=some u:=by
 have:=cell_one_new (w.alloc o) v e
 simpa using this
theorem q5d(w:World):Calls prog 190 #[] w fun e w'=>∃ v c,e=.returned v/\w'.ownsRow w.heap.size 221 1 v 7 (q5H c 4)/\j7p w' w.heap.size c 4/\Bl w w':=by
 have a:(prog.info? 221).map (fun i=>(i.zero,i.size,i.bytes))=some (some .nilFunc,1,8):=by kernel_rfl
 obtain⟨i0,q,m,n,o⟩:∃ i,prog.info? 221=some i/\i.zero=some .nilFunc/\i.size=1/\i.bytes=8:=by
  cases h:prog.info? 221 with
  | none=>rw[h]at a;cases a
  | some i=>rw[h]at a;simp at a;exact⟨i,rfl,a.1,a.2.1,a.2.2⟩
 clear a
 go_enter func190,ntmps190
 go_wp2_with (first
  | (go_at_call 147;refine (z4s _).mono ?_;rintro e w1⟨rfl,rfl⟩)
  | (go_at_call 148;refine (z3K _).mono ?_;rintro e w1⟨rfl,rfl⟩)
  | (go_at_call 171;refine (z7x _).mono ?_;rintro e w1⟨rfl,rfl⟩))
 go_loopw [1,7] (fun u i wl=>∃ (k:Nat) (c:Nat->Nat),k<=4/\i=J I (k:Int)/\wl.ownsRow w.heap.size 221 1 u (3+k) (q5H c k)/\Hid (j7p wl w.heap.size c k/\Bl w wl)) (fun _ i _=>(4 - intOf i).toNat)
 case atStart =>
  refine⟨0,fun _=>0,by omega,rfl,?_,fun j r=>absurd r (by omega),znw w _⟩
  exact⟨rfl,.inr ⟨_,3,_,rfl,Nat.le_refl _,heap_alloc_new _ _,by omega,by unfold maxLen;omega,rfl,rfl⟩⟩
 case round =>
  obtain⟨k,c,t,rfl,hown,l⟩:=hrel;have g:w.heap.size<=wr.heap.size:=l.out.2.size
  by_cases s:k<4
  ·go_wp2_with (first
    | (go_at_call 146;refine (z6d _ _).mono ?_;rintro e w1⟨rfl,rfl⟩)
     | (at_builtin;refine wpList_append_own _ rfl _ _ 262 rfl w.heap.size 221 i0 .nilFunc 1 8 underlying262 q m n o rfl (by decide) _ _ _ rfl (World.ownsRow.alloc (World.ownsRow.alloc hown _) _) ⟨wr.heap.size+1,0,none⟩ 1 1 [.func (.func 168) #[] #[J2 (some ⟨wr.heap.size,0,none⟩)]] rfl rfl (cell_two_new _ _ _ _) (by intro u hu;simp at hu;subst hu;rfl) (by unfold maxLen;omega) (by omega) (by simp;omega) ?_;intro v' w1 d f _))
   go_roundw
   case rel =>
    have p:((wr.alloc (Obj.cells #[Value.int IntKind.i64 ↑k] 3)).alloc (Obj.cells #[Value.func (Fn.func 168) #[] #[Value.pointer (some ⟨wr.heap.size,0,none⟩)]] 221)).grownBy w1 u1.ownBlock:=f;refine⟨k+1,fun j=>if j=k then wr.heap.size else c j,by omega,by go_num,?_,q8m g l.out.1 _ rfl _ hown p,?_⟩
    ·rw[q4o];exact d
    ·refine ((l.out.2.alloc g _).alloc (by simp;omega) _).grown p (by simp;omega) ?_
     intro b hb
     rcases hown.2 with⟨e,_⟩ | ⟨g',cap,cur,e,hB,_⟩
     ·subst e;simp[Value.ownBlock]at hb
     ·subst e
      simp[Value.ownBlock]at hb
      omega
   case measure=>simp[intOf];omega
  ·obtain rfl:k=4:=by omega
   go_wp2;go_ret;exact⟨_,c,rfl,hown,l.out⟩
structure PL(w:World)(B g c0 c1 c2 c3:Nat):Prop where
 p0:w.cell? ⟨g,0,none⟩=some (.func (.func 169) #[] #[])
 p1:w.cell? ⟨g,1,none⟩=some (.func (.func 170) #[] #[])
 p2:w.cell? ⟨g,2,none⟩=some (.func (.func 192) #[] #[])
 p3:w.cell? ⟨g,3,none⟩=some (.func (.func 168) #[] #[J2 (some ⟨c0,0,none⟩)])
 p4:w.cell? ⟨g,4,none⟩=some (.func (.func 168) #[] #[J2 (some ⟨c1,0,none⟩)])
 p5:w.cell? ⟨g,5,none⟩=some (.func (.func 168) #[] #[J2 (some ⟨c2,0,none⟩)])
 p6:w.cell? ⟨g,6,none⟩=some (.func (.func 168) #[] #[J2 (some ⟨c3,0,none⟩)])
 q0:w.cell? ⟨c0,0,none⟩=some (J I 0)
 q1:w.cell? ⟨c1,0,none⟩=some (J I 1)
 q2:w.cell? ⟨c2,0,none⟩=some (J I 2)
 q3:w.cell? ⟨c3,0,none⟩=some (J I 3)
 bg:B<=g
 b0:B<=c0
 b1:B<=c1
 b2:B<=c2
 b3:B<=c3
theorem PL.later{w w':World}{B g c0 c1 c2 c3:Nat}(h:PL w B g c0 c1 c2 c3)(hb:∀ k,B<=k->w'.heap[k]?=w.heap[k]?):PL w' B g c0 c1 c2 c3:=by
 have k:∀ (b o:Nat),B<=b->w'.cell? ⟨b,o,none⟩=w.cell? ⟨b,o,none⟩:=fun b o a=>World.cell?_of_block (w:=w) (hb b a)
 exact⟨(k _ _ h.bg).trans h.p0,(k _ _ h.bg).trans h.p1,(k _ _ h.bg).trans h.p2,(k _ _ h.bg).trans h.p3,(k _ _ h.bg).trans h.p4,(k _ _ h.bg).trans h.p5,(k _ _ h.bg).trans h.p6,
  (k _ _ h.b0).trans h.q0,(k _ _ h.b1).trans h.q1,(k _ _ h.b2).trans h.q2,(k _ _ h.b3).trans h.q3,h.bg,h.b0,h.b1,h.b2,h.b3⟩
theorem z8q(w:World):Calls prog 190 #[] w fun e w'=>∃ g cap c0 c1 c2 c3,e=.returned (J1 (some ⟨g,0,none⟩) 7 cap)/\PL w' w.heap.size g c0 c1 c2 c3/\Bl w w':=by
 refine (q5d w).mono ?_;rintro e w'⟨v,c,rfl,hown,hc,hb⟩
 rcases hown.2 with⟨_,h⟩ | ⟨g,cap,cur,rfl,hB,hh,_,_,_,ht⟩
 ·exact absurd h (by decide)
 ·have hcell:∀ i u,(q5H c 4)[i]?=some u->w'.cell? ⟨g,i,none⟩=some u:=by
   intro i u hu;rw[<- ht,List.getElem?_take]at hu
   split at hu
   ·simp[World.cell?,hh]
    simpa using hu
   ·cases hu
  have a:∀ j:Nat,j<4->w'.cell? ⟨c j,0,none⟩=some (J I j):=by
   intro j b
   simp[World.cell?,(hc j b).2]
  exact⟨g,cap,c 0,c 1,c 2,c 3,rfl,⟨hcell 0 _ rfl,hcell 1 _ rfl,hcell 2 _ rfl,hcell 3 _ rfl,hcell 4 _ rfl,hcell 5 _ rfl,hcell 6 _ rfl,a 0 (by decide),a 1 (by decide),a 2 (by decide),a 3 (by decide),hB,(hc 0 (by decide)).1,(hc 1 (by decide)).1,(hc 2 (by decide)).1,(hc 3 (by decide)).1⟩,hb⟩
end
/-
 The arithmetic under MulDiv,no Go in sight: that a division of 128 bits by 64,two digits of 32 bits each (as the library's text goes),gives the quotient;and the reference's way,bit by bit.
-/
namespace Ra
theorem q3s(a y0 u u1 q r:Int)(b:0<a * 4294967296+y0)(hu:q * a+r=u) :
  (4294967296 * r+u1<q * y0)↔(u * 4294967296+u1) / (a * 4294967296+y0)<q:=by
 rw[Int.ediv_lt_iff_lt_mul b,Int.mul_add,<- Int.mul_assoc];generalize q * a=p1 at *;generalize q * y0=p0 at *;omega
theorem q9G(a y0 u u1:Int)(b:0<a * 4294967296+y0)(hu:u<a * 4294967296+y0)(h1:u1<4294967296) :
  (u * 4294967296+u1) / (a * 4294967296+y0)<4294967296:=by
 rw[Int.ediv_lt_iff_lt_mul b];omega
theorem q1B(a y0 u u1:Int)(h0:0<=y0)(d:y0<4294967296)(h1:2147483648<=a)(b:0<=u)(hu:u<a * 4294967296+y0)(f:0<=u1)(c:u1<4294967296) :
  (u * 4294967296+u1) / (a * 4294967296+y0)<=u / a/\u / a<=4294967297:=by
 constructor
 ·have e:=Int.mul_ediv_add_emod u a;have m:=Int.emod_lt_of_pos u (show 0<a by omega)
  have:(u * 4294967296+u1) / (a * 4294967296+y0)<u / a+1:=by
   rw[Int.ediv_lt_iff_lt_mul (by omega)]
   have q0:0<=u / a:=Int.ediv_nonneg b (by omega)
   have:0<=(u / a+1) * y0:=Int.mul_nonneg (by omega) h0
   rw[Int.mul_add,<- Int.mul_assoc,Int.add_mul (u / a) 1 a,Int.mul_comm (u / a) a];generalize (u / a+1) * y0=p0 at *;generalize a * (u / a)=p1 at *;omega
  omega
 ·have:u / a<4294967298:=by
   rw[Int.ediv_lt_iff_lt_mul (by omega)]
   omega
  omega
theorem q4X(Y u a b:Int)(c:0<Y) :
  (u * 4294967296+a) / Y * 4294967296+(((u * 4294967296+a) % Y) * 4294967296+b) / Y=(u * 18446744073709551616+a * 4294967296+b) / Y:=by
 have e:=Int.mul_ediv_add_emod (u * 4294967296+a) Y;generalize (u * 4294967296+a) / Y=q at *;generalize (u * 4294967296+a) % Y=r at *
 have:u * 18446744073709551616+a * 4294967296+b=r * 4294967296+b+q * 4294967296 * Y:=by
  have:Y * q * 4294967296=q * 4294967296 * Y:=by rw[Int.mul_comm Y q,Int.mul_right_comm]
  omega
 rw[this,Int.add_mul_ediv_right _ _ (by omega)]
 omega
theorem q5M(U y p:Int)(hp:0<p):U * p / (y * p)=U / y:=Int.mul_ediv_mul_of_pos_left U y hp
/-! ### the reference: bit by bit -/
/-! ### a digit's loop -/
def Dig(a u Q q r:Int):Prop:=q * a+r=u/\Q<=q/\0<=q/\q<=4294967297/\0<=r/\r<4294967296
theorem Dig.prod{a u Q q r:Int}(h:Dig a u Q q r){y0:Int}(h0:0<=y0)(b:y0<4294967296):0<=q * y0/\q * y0<18446744073709551616:=by
 obtain⟨_,_,h1,h2,_,_⟩:=h;refine⟨Int.mul_nonneg h1 h0,?_⟩;have:=Int.mul_le_mul h2 (show y0<=4294967295 by omega) h0 (by omega)
 omega
theorem Dig.gt{a u Q q r:Int}(h:Dig a u Q q r){y0 u1:Int}(b:0<a * 4294967296+y0)(c:Q=(u * 4294967296+u1) / (a * 4294967296+y0)):(4294967296 * r+u1<q * y0)↔Q<q:=by
 rw[c];exact q3s a y0 u u1 q r b h.1
theorem Dig.next{a u Q q r:Int}(h:Dig a u Q q r)(c:Q<q)(d:0<=Q)(h1:0<=a)(b:r+a<4294967296):Dig a u Q (q - 1) (r+a):=by
 obtain⟨e,h2,h3,f,g,i⟩:=h;refine⟨?_,by omega,by omega,by omega,by omega,b⟩
 rw[Int.sub_mul];generalize q * a=p at *;omega
theorem Dig.last{a u Q q r:Int}(h:Dig a u Q q r)(j:Q<q){y0 u1:Int}(h0:0<=y0)(c:y0<4294967296)(hu:0<=u1)(d:0<a * 4294967296+y0)(f:Q=(u * 4294967296+u1) / (a * 4294967296+y0))(k:4294967296<=r+a):q - 1=Q:=by
 obtain⟨e,h2,h3,l,m,n⟩:=h
 have i:(q - 1) * a+(r+a)=u:=by
  rw[Int.sub_mul];generalize q * a=p at *;omega
 have g:=q3s a y0 u u1 (q - 1) (r+a) d i;rw[<- f]at g;have b:=Int.mul_le_mul (show q - 1<=4294967296 by omega) (show y0<=4294967295 by omega) h0 (by omega)
 generalize (q - 1) * y0=p at *;omega
theorem Dig.first(a y0 u u1 Q:Int)(h0:0<=y0)(d:y0<4294967296)(h1:2147483648<=a)(h:a<4294967296)(c:0<=u)(hu:u<a * 4294967296+y0)(g:0<=u1)(b:u1<4294967296)(i:Q=(u * 4294967296+u1) / (a * 4294967296+y0)) :
  Dig a u Q (u / a) (u % a)/\0<=Q/\Q<4294967296/\0<=u / a * a/\u / a * a<=u/\u - u / a * a=u % a:=by
 have f:=q1B a y0 u u1 h0 d h1 c hu g b;have l:=q9G a y0 u u1 (by omega) hu b
 have n:0<=(u * 4294967296+u1) / (a * 4294967296+y0):=Int.ediv_nonneg (by omega) (by omega)
 rw[<- i]at f l n;have e:=Int.mul_ediv_add_emod u a;rw[Int.mul_comm]at e;have m:=Int.emod_lt_of_pos u (show 0<a by omega)
 have j:=Int.emod_nonneg u (show a≠0 by omega)
 have q0:0<=u / a:=Int.ediv_nonneg c (by omega)
 have p0:0<=u / a * a:=Int.mul_nonneg q0 (by omega)
 have D:Dig a u Q (u / a) (u % a):=⟨e,f.1,q0,f.2,j,by omega⟩
 exact⟨D,n,l,p0,by omega,by omega⟩
end Ra
namespace Ra
theorem q6P(y:Nat)(a:0<y)(c:y<9223372036854775808):∃ s:Nat,bitLen y+s=64/\1<=s/\s<=63/\9223372036854775808<=y * 2 ^ s/\y * 2 ^ s<18446744073709551616:=by
 obtain⟨h1,h2⟩:=bitLen_spec y;have h2:=h2 (by omega)
 have b:bitLen y≠0:=by intro h;rw[h]at h1;omega
 have hb:bitLen y<=63:=by
  apply Decidable.byContradiction;intro h;have:2 ^ 63<=2 ^ (bitLen y - 1):=Nat.pow_le_pow_right (by decide) (by omega)
  omega
 refine⟨64 - bitLen y,by omega,by omega,by omega,?_,?_⟩
 ·have e:2 ^ (bitLen y - 1) * 2 ^ (64 - bitLen y)=2 ^ 63:=by rw[<- Nat.pow_add];congr 1;omega
  have:=Nat.mul_le_mul_right (2 ^ (64 - bitLen y)) h2;omega
 ·have e:2 ^ bitLen y * 2 ^ (64 - bitLen y)=2 ^ 64:=by rw[<- Nat.pow_add];congr 1;omega
  have:=Nat.mul_lt_mul_of_pos_right h1 (Nat.two_pow_pos (64 - bitLen y));omega
theorem q5N(d c y s:Nat)(l:1<=s)(g:s<=63)(h:d<y)(i:c<18446744073709551616)(m:y * 2 ^ s<18446744073709551616) :
  (d * 18446744073709551616+c) * 2 ^ s=(d * 2 ^ s+c / 2 ^ (64 - s)) * 18446744073709551616+c * 2 ^ s % 18446744073709551616/\d * 2 ^ s+c / 2 ^ (64 - s)<y * 2 ^ s /\
  d * 2 ^ s<18446744073709551616/\c / 2 ^ (64 - s)<2 ^ s:=by
 have f:2 ^ (64 - s) * 2 ^ s=18446744073709551616:=by rw[<- Nat.pow_add,show 64 - s+s=64 by omega]
 have j:c * 2 ^ s / 18446744073709551616=c / 2 ^ (64 - s):=by rw[<- f];exact Nat.mul_div_mul_right c (2 ^ (64 - s)) (Nat.two_pow_pos s)
 have k:=Nat.div_add_mod (c * 2 ^ s) 18446744073709551616;rw[j]at k
 have e:(d * 18446744073709551616+c) * 2 ^ s=(d * 2 ^ s+c / 2 ^ (64 - s)) * 18446744073709551616+c * 2 ^ s % 18446744073709551616:=by
  rw[Nat.add_mul,Nat.add_mul,Nat.mul_right_comm];generalize d * 2 ^ s=a;generalize c * 2 ^ s=b at *;omega
 have b1:d * 18446744073709551616+c<y * 18446744073709551616:=by omega
 have b2:=Nat.mul_lt_mul_of_pos_right b1 (Nat.two_pow_pos s);rw[e,Nat.mul_right_comm]at b2;have b3:c / 2 ^ (64 - s)<2 ^ s:=by rw[Nat.div_lt_iff_lt_mul (Nat.two_pow_pos _),Nat.mul_comm,f];exact i
 refine⟨e,?_,?_,b3⟩
 ·generalize y * 2 ^ s=Y at *;generalize d * 2 ^ s+c / 2 ^ (64 - s)=u at *;omega
 ·have:=Nat.mul_le_mul_right (2 ^ s) (Nat.le_of_lt h);omega
theorem j5k(a b s:Nat)(d:a * 2 ^ s<18446744073709551616)(hb:b<2 ^ s)(c:b<18446744073709551616):bits .or .u64 ((a * 2 ^ s:Nat):Int) (b:Int)=((a * 2 ^ s+b:Nat):Int):=by
 rw[bits_or_u64_nat _ _ d c,Nat.mul_comm a,Nat.two_pow_add_eq_or_of_lt hb]
end Ra
namespace Ra
open Go.RowKit
theorem j8b(x y:Int)(a:0<=x)(c:x<18446744073709551616)(b:0<=y)(d:y<18446744073709551616)(w:World) :
  Calls prog 166 #[.int .u64 x,.int .u64 y] w fun e w'=>e=.returned (.tuple #[.int .u64 (x * y / 18446744073709551616),.int .u64 (x * y % 18446744073709551616)])/\w'=w:=by
 have A:=mul64_arith x y a c b d
 go_enter func166,ntmps166
 go_wp2;simp only[IntKind.wrap_u64,and_low32 x a c,and_low32 y b d,and_low32 (_ % 18446744073709551616) (Int.emod_nonneg _ (by decide)) (Int.emod_lt_of_pos _ (by decide)),A]
 go_ret2;exact⟨rfl,rfl⟩
theorem q8Q(x b:Nat)(h:2 ^ b<=x):bitLen x=b+bitLen (x / 2 ^ b):=
 bitLen_shift x b (by have:=(Nat.le_div_iff_mul_le (Nat.two_pow_pos b)).2 (show 1 * 2 ^ b<=x by omega);omega)
theorem shifted(x b p:Nat)(hp:2 ^ b=p)(h:p<=x):∃ z:Nat,(x:Int) / p=z/\bitLen x=b+bitLen z/\z=x / p:=by
 subst hp;exact⟨x / 2 ^ b,by rw[Int.natCast_ediv],q8Q x b h,rfl⟩
theorem wrap_small(a:Nat)(h:a<=8):wrap64 (a:Int)=(a:Int):=by unfold wrap64;omega
theorem z3T(k a b:Nat)(c:k<=56)(h:a<=8)(e:b=k+a):wrap64 ((k:Int)+(a:Int))=(b:Int):=by unfold wrap64;omega
set_option maxRecDepth 1000000 in
theorem j1Y(x:Nat)(a:x<18446744073709551616)(w:World) :
  Calls prog 184 #[.int .u64 x] w fun e w'=>e=.returned (J I (bitLen x))/\w'=w:=by
 by_cases h0:4294967296<=x
 ·have i0:(4294967296:Int)<=(x:Int):=by omega
  obtain⟨z,q0,g,f0⟩:=shifted x 32 4294967296 (by decide) h0
  simp only[Int.cast_ofNat_Int]at q0
  by_cases h1:65536<=z
  ·have i1:(65536:Int)<=(z:Int):=by omega
   obtain⟨y,q1,f,f1⟩:=shifted z 16 65536 (by decide) h1
   simp only[Int.cast_ofNat_Int]at q1
   by_cases h2:256<=y
   ·have c:(256:Int)<=(y:Int):=by omega
    obtain⟨v,q2,d,f2⟩:=shifted y 8 256 (by decide) h2
    simp only[Int.cast_ofNat_Int]at q2;have hb:=bitLen_le8 v (by omega)
    have j:(v:Int)<256:=by omega
    have e:bitLen x=56+bitLen v:=by clear h0 h1 h2 a hb j;omega
    have b:wrap64 ((bitLen v:Nat):Int)=(bitLen v:Nat):=wrap_small _ hb;have g2:wrap64 (56+((bitLen v:Nat):Int))=(bitLen x:Nat):=z3T 56 _ _ (by decide) hb e
    clear e;clear hb h0 h1 h2 a g f0 f f1 d f2
    go_enter func184,ntmps184
    go_wp2;simp only[len8tab_get,b,g2];go_ret;exact⟨rfl,rfl⟩
   ·have c:¬ (256:Int)<=(y:Int):=by omega
    have hb:=bitLen_le8 y (by omega)
    have j:(y:Int)<256:=by omega
    have e:bitLen x=48+bitLen y:=by clear h0 h1 h2 a hb j;omega
    have b:wrap64 ((bitLen y:Nat):Int)=(bitLen y:Nat):=wrap_small _ hb;have g2:wrap64 (48+((bitLen y:Nat):Int))=(bitLen x:Nat):=z3T 48 _ _ (by decide) hb e
    clear e;clear hb h0 h1 h2 a g f0 f f1
    go_enter func184,ntmps184
    go_wp2;simp only[len8tab_get,b,g2];go_ret;exact⟨rfl,rfl⟩
  ·have i1:¬ (65536:Int)<=(z:Int):=by omega
   by_cases h2:256<=z
   ·have c:(256:Int)<=(z:Int):=by omega
    obtain⟨v,q2,d,f2⟩:=shifted z 8 256 (by decide) h2
    simp only[Int.cast_ofNat_Int]at q2;have hb:=bitLen_le8 v (by omega)
    have j:(v:Int)<256:=by omega
    have e:bitLen x=40+bitLen v:=by clear h0 h1 h2 a hb j;omega
    have b:wrap64 ((bitLen v:Nat):Int)=(bitLen v:Nat):=wrap_small _ hb;have g2:wrap64 (40+((bitLen v:Nat):Int))=(bitLen x:Nat):=z3T 40 _ _ (by decide) hb e
    clear e;clear hb h0 h1 h2 a g f0 d f2
    go_enter func184,ntmps184
    go_wp2;simp only[len8tab_get,b,g2];go_ret;exact⟨rfl,rfl⟩
   ·have c:¬ (256:Int)<=(z:Int):=by omega
    have hb:=bitLen_le8 z (by omega)
    have j:(z:Int)<256:=by omega
    have e:bitLen x=32+bitLen z:=by clear h0 h1 h2 a hb j;omega
    have b:wrap64 ((bitLen z:Nat):Int)=(bitLen z:Nat):=wrap_small _ hb;have g2:wrap64 (32+((bitLen z:Nat):Int))=(bitLen x:Nat):=z3T 32 _ _ (by decide) hb e
    clear e;clear hb h0 h1 h2 a g f0
    go_enter func184,ntmps184
    go_wp2;simp only[len8tab_get,b,g2];go_ret;exact⟨rfl,rfl⟩
 ·have i0:¬ (4294967296:Int)<=(x:Int):=by omega
  by_cases h1:65536<=x
  ·have i1:(65536:Int)<=(x:Int):=by omega
   obtain⟨y,q1,f,f1⟩:=shifted x 16 65536 (by decide) h1
   simp only[Int.cast_ofNat_Int]at q1
   by_cases h2:256<=y
   ·have c:(256:Int)<=(y:Int):=by omega
    obtain⟨v,q2,d,f2⟩:=shifted y 8 256 (by decide) h2
    simp only[Int.cast_ofNat_Int]at q2;have hb:=bitLen_le8 v (by omega)
    have j:(v:Int)<256:=by omega
    have e:bitLen x=24+bitLen v:=by clear h0 h1 h2 a hb j;omega
    have b:wrap64 ((bitLen v:Nat):Int)=(bitLen v:Nat):=wrap_small _ hb;have g2:wrap64 (24+((bitLen v:Nat):Int))=(bitLen x:Nat):=z3T 24 _ _ (by decide) hb e
    clear e;clear hb h0 h1 h2 a f f1 d f2
    go_enter func184,ntmps184
    go_wp2;simp only[len8tab_get,b,g2];go_ret;exact⟨rfl,rfl⟩
   ·have c:¬ (256:Int)<=(y:Int):=by omega
    have hb:=bitLen_le8 y (by omega)
    have j:(y:Int)<256:=by omega
    have e:bitLen x=16+bitLen y:=by clear h0 h1 h2 a hb j;omega
    have b:wrap64 ((bitLen y:Nat):Int)=(bitLen y:Nat):=wrap_small _ hb;have g2:wrap64 (16+((bitLen y:Nat):Int))=(bitLen x:Nat):=z3T 16 _ _ (by decide) hb e
    clear e;clear hb h0 h1 h2 a f f1
    go_enter func184,ntmps184
    go_wp2;simp only[len8tab_get,b,g2];go_ret;exact⟨rfl,rfl⟩
  ·have i1:¬ (65536:Int)<=(x:Int):=by omega
   by_cases h2:256<=x
   ·have c:(256:Int)<=(x:Int):=by omega
    obtain⟨v,q2,d,f2⟩:=shifted x 8 256 (by decide) h2
    simp only[Int.cast_ofNat_Int]at q2;have hb:=bitLen_le8 v (by omega)
    have j:(v:Int)<256:=by omega
    have e:bitLen x=8+bitLen v:=by clear h0 h1 h2 a hb j;omega
    have b:wrap64 ((bitLen v:Nat):Int)=(bitLen v:Nat):=wrap_small _ hb;have g2:wrap64 (8+((bitLen v:Nat):Int))=(bitLen x:Nat):=z3T 8 _ _ (by decide) hb e
    clear e;clear hb h0 h1 h2 a d f2
    go_enter func184,ntmps184
    go_wp2;simp only[len8tab_get,b,g2];go_ret;exact⟨rfl,rfl⟩
   ·have c:¬ (256:Int)<=(x:Int):=by omega
    have hb:=bitLen_le8 x (by omega)
    have j:(x:Int)<256:=by omega
    have b:wrap64 ((bitLen x:Nat):Int)=(bitLen x:Nat):=wrap_small _ hb;clear hb h0 h1 h2 a
    go_enter func184,ntmps184
    go_wp2;simp only[len8tab_get,b];go_ret;exact⟨rfl,rfl⟩
theorem q8C(x:Nat)(a:x<18446744073709551616)(b:bitLen x<=64)(w:World) :
  Calls prog 191 #[.int .u64 x] w fun e w'=>e=.returned (J I (64 - bitLen x))/\w'=w:=by
 have c:=j1Y x a w;generalize bitLen x=n at *
 go_enter func191,ntmps191
 go_wp2_with (go_at_call 184;refine c.mono ?_;rintro e w'⟨rfl,rfl⟩)
 go_ret;exact⟨rfl,rfl⟩
end Ra
namespace Df
abbrev Pw:=Int×Int
def q5T(P:Nat->Int)(x:Pw):Nat->Int:=if 0<=x.1/\x.1<6 then (fun i=>if i=x.1.toNat then x.2 else P i) else P
def z3C:Nat->Int:=fun _=>0
def z2u(l:List Pw):Nat->Int:=l.foldr (fun x P=>q5T P x) z3C
def z3u(P:Nat->Int)(l:List Pw):Nat->Int:=l.foldl q5T P
def those(c:Nat->Bool)(f:Nat->Int)(n:Nat):List Pw:=(List.range n).filterMap fun v=>if c v=true then some ((v:Int),f v) else none
theorem z3G(c:Nat->Bool)(f:Nat->Int)(n:Nat):those c f (n+1)=if c n=true then those c f n ++ [((n:Int),f n)] else those c f n:=by
 unfold those;rw[List.range_succ,List.filterMap_append];cases h:c n <;> simp[h]
theorem z3D(c:Nat->Bool)(f:Nat->Int):∀ n,(those c f n).length<=n
 | 0=>by simp[those]
 | n+1=>by
  have:=z3D c f n;rw[z3G]
  split
  ·rw[List.length_append];simp;omega
  ·omega
def z6B(a b:List Pw):List Pw:=those (fun v=>decide (z2u b v≠z2u a v)) (z2u b) 6
def z3W(a d:List Pw):List Pw:=those (fun v=>decide (0<z3u (z3u z3C a) d v)) (z3u (z3u z3C a) d) 6
theorem z4g{P:Nat->Int}{n:Nat}{x:Int}(a:n<6)(i:Nat):q5T P ((n:Int),x) i=if i=n then x else P i:=by
 unfold q5T;rw[if_pos (by simp;omega)]
 simp
def q4m(l:List Pw):Int:=l.foldl (fun s x=>(s+x.2+9223372036854775808) % 18446744073709551616 - 9223372036854775808) 0
theorem q5b(l:List Pw)(k:Nat)(a:k<l.length):z2u (l.drop k)=q5T (z2u (l.drop (k+1))) (l.getD k (0,0)):=by
 unfold z2u;rw[List.drop_eq_getElem_cons a,List.foldr_cons,show l.getD k (0,0)=l[k] by simp[List.getD,a]]
theorem z8Z(P:Nat->Int)(l:List Pw)(k:Nat)(a:k<l.length):z3u P (l.take (k+1))=q5T (z3u P (l.take k)) (l.getD k (0,0)):=by
 unfold z3u;rw[List.take_succ_eq_append_getElem a,List.foldl_append]
 simp[List.getD,a]
theorem j1R(l:List Pw)(k:Nat)(a:k<l.length):q4m (l.take (k+1))=(q4m (l.take k)+(l.getD k (0,0)).2+9223372036854775808) % 18446744073709551616 - 9223372036854775808:=by
 unfold q4m;rw[List.take_succ_eq_append_getElem a,List.foldl_append]
 simp[List.getD,a]
end Df
end Go.Proofs.YtddlhnoedldidaaGreat
