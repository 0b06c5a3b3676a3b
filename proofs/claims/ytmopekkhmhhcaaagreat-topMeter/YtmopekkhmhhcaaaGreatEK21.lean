/- Parts of the proof. -/
import Derived.Test.YtmopekkhmhhcaaaGreatEL
import Derived.Test.YtmopekkhmhhcaaaGreatEK3
import Derived.Test.YtmopekkhmhhcaaaGreatEK4
import Derived.Test.YtmopekkhmhhcaaaGreatEK28
import Derived.Test.YtmopekkhmhhcaaaGreatEK32
import Derived.Test.YtmopekkhmhhcaaaGreatEK35
import Derived.Test.YtmopekkhmhhcaaaGreatEK37
set_option maxRecDepth 100000
set_option maxHeartbeats 16000000
namespace Go.Proofs.YtmopekkhmhhcaaaGreat
open Go.Proofs.Tryz
namespace Pv
open Go.RowKit
theorem z8Z{α:Type}{l:List α}{k:Nat}(h:k<l.length):∃ x,l[k]?=some x/\l.drop k=x :: l.drop (k+1):=⟨l[k],List.getElem?_eq_getElem h,List.drop_eq_getElem_cons h⟩
theorem q3D(a b:List (Int×Int))(u v:Value)(P P':Nat->Prop)(w:World)(hu:Rep P w u 2 16 (pwC a))(hv:Rep P' w v 2 16 (pwC b)) :
  Calls prog 120 #[u,v] w fun e w'=>e=.returned (.bool (decide (a=b)))/\Below w.heap.size w w':=by
 obtain ⟨A,C,rfl,hs,-,hc,-⟩:=hu.open (z0c _) (by decide)
 obtain ⟨A',C',rfl,hs',-,hc',-⟩:=hv.open (z0c _) (by decide)
 have HC:=hide hc;have HC':=hide hc';have hla:a.length<=8796093022202:=by omega
 have hlb:b.length<=8796093022202:=by omega
 obtain ⟨G,hG⟩:∃ G,decide (a=b)=G:=⟨_,rfl⟩;have HG:=hide hG;rw[hG];clear hc hc' hu hv hs hs' hG
 go_enter func120,ntmps120
 by_cases hl:a.length=b.length
 ·have hlI:(a.length:Int)=(b.length:Int):=by omega
  have hlb':((a.length:Int) != (b.length:Int))=false:=by simpa using hlI
  go_upto_region 4 with fail
  go_loopw [13] (fun i wl=>∃ (k:Nat),k<=a.length/\i=.int .i64 (k:Int)/\Hid (G=decide (a.drop k=b.drop k)/\Below w.heap.size w wl)) (fun i _=>a.length - (intOf i).toNat)
  case atStart=>exact ⟨0,Nat.zero_le _,rfl,by rw[List.drop_zero,List.drop_zero];exact HG.out.symm,Below.refl _ _⟩
  case round =>
   obtain ⟨k,hk,rfl,HR⟩:=hrel
   by_cases hlt:k<a.length
   ·have hkI:(k:Int)<(a.length:Int):=by omega
    have hkJ:(k:Int)<(b.length:Int):=by omega
    obtain ⟨x,hx,hd⟩:=z8Z hlt;obtain ⟨y,hy,hd'⟩:=z8Z (l:=b) (k:=k) (by omega)
    obtain ⟨ba,oa,rfl,-,hbl,hcell⟩:=HC.out (by omega)
    obtain ⟨bb,ob,rfl,-,hbl',hcell'⟩:=HC'.out (by omega)
    have gx:a.getD k (0,0)=x:=by simp[List.getD,hx]
    have gy:b.getD k (0,0)=y:=by simp[List.getD,hy]
    obtain ⟨p0,p1⟩:=z1U a k hlt;obtain ⟨q0,q1⟩:=z1U b k (by omega)
    rw[gx]at p0 p1;rw[gy]at q0 q1;have c0:wr.cell? ⟨ba,oa+k * 2,none⟩=some (.int .i64 x.1):=(HR.out.2.cell (p:=⟨ba,oa+k * 2,none⟩) hbl).trans (hcell _ _ p0);have c1:wr.cell? ⟨ba,oa+k * 2+1,none⟩=some (.int .i64 x.2):=(HR.out.2.cell (p:=⟨ba,oa+k * 2+1,none⟩) hbl).trans (hcell _ _ p1);have d0:wr.cell? ⟨bb,ob+k * 2,none⟩=some (.int .i64 y.1):=(HR.out.2.cell (p:=⟨bb,ob+k * 2,none⟩) hbl').trans (hcell' _ _ q0);have d1:wr.cell? ⟨bb,ob+k * 2+1,none⟩=some (.int .i64 y.2):=(HR.out.2.cell (p:=⟨bb,ob+k * 2+1,none⟩) hbl').trans (hcell' _ _ q1);have HE:Hid (G=decide (x :: a.drop (k+1)=y :: b.drop (k+1))):=by have:=HR.out.1;rw[hd,hd']at this;exact this
    have HB:=hide HR.out.2;clear HR hd hd' hx hy gx gy p0 p1 q0 q1 hcell hcell';obtain ⟨x1,x2⟩:=x;obtain ⟨y1,y2⟩:=y;dsimp only at c0 c1 d0 d1
    by_cases h12:x1=y1/\x2=y2
    ·obtain ⟨rfl,rfl⟩:=h12;have HE2:Hid (G=decide (a.drop (k+1)=b.drop (k+1))):=by rw[Hid,HE.out];simp
     clear HE
     go_upto_region 6 with fail
     go_quiet (fail);simp only[Exit.then];apply_assumption;go_wp2
     first | exact ⟨⟨k+1,by omega,by go_num,HE2.out,below_drewN HB.out _⟩,by simp[intOf];omega⟩ | exact ⟨⟨k+1,by omega,by go_num,HE2.out,HB.out⟩,by simp[intOf];omega⟩ | ((repeat apply Exists.intro);exact ⟨⟨k+1,by omega,by go_num,HE2.out,below_drewN HB.out _⟩,rfl⟩) | ((repeat apply Exists.intro);exact ⟨⟨k+1,by omega,by go_num,HE2.out,HB.out⟩,rfl⟩)
    ·have e:G=false:=by
      rw[HE.out];refine decide_eq_false fun h=>h12 ?_;have:=(List.cons.inj h).1;exact ⟨congrArg Prod.fst this,congrArg Prod.snd this⟩
     subst e
     have hcs:x1≠y1∨(x1=y1/\x2≠y2):=by
      by_cases h:x1=y1
      ·exact .inr ⟨h,fun h2=>h12 ⟨h,h2⟩⟩
      ·exact .inl h
     clear HE h12 HG
     rcases hcs with h1 | ⟨rfl,h2⟩
     ·go_upto_region 6 with fail
      go_quiet (fail);simp only[Exit.then];apply_assumption;go_wp2;go_ret
      first | exact ⟨rfl,below_drewN HB.out _⟩ | exact ⟨rfl,HB.out⟩
     ·go_upto_region 6 with fail
      go_quiet (fail);simp only[Exit.then];apply_assumption;go_wp2;go_ret
      first | exact ⟨rfl,below_drewN HB.out _⟩ | exact ⟨rfl,HB.out⟩
   ·obtain rfl:k=a.length:=by omega
    have e:G=true:=by have:=HR.out.1;rw[List.drop_length,hl,List.drop_length]at this;simpa using this
    subst e;go_wp2;go_ret;exact ⟨rfl,HR.out.2⟩
 ·have hlI:¬ ((a.length:Int)=(b.length:Int)):=by omega
  have hlb':((a.length:Int) != (b.length:Int))=true:=by simpa using hlI
  have e:G=false:=by rw[← HG.out];exact decide_eq_false fun h=>hl (by rw[h])
  subst e;go_wp2;go_ret;exact ⟨rfl,Below.refl _ _⟩
theorem j5b:(prog.info? 68).map (fun i=>(i.zero,i.size,i.bytes))=some (some (.agg #[.int .i64 0,.int .i64 0]),2,16):=by kernel_rfl
theorem q0f(w:World)(a:Option Addr)(n c:Nat):(binOp .eql 44 (.slice a n c) (.slice none 0 0)).run prog w=.ok (.bool a.isNone) w:=by
 simp[binOp,run_equal_slice_nil w 44 68 a n c underlying44]
theorem z8Y(w:World):(w.alloc (.cells #[] 68)).ownsRow w.heap.size 68 2 (.slice (some ⟨w.heap.size,0,none⟩) 0 0) 0 []:=⟨rfl,.inr ⟨w.heap.size,0,#[],rfl,Nat.le_refl _,heap_alloc_new _ _,Nat.le_refl _,Nat.zero_le _,rfl,rfl⟩⟩
theorem z7x{P:Nat->Prop}(w:World)(a:Addr)(c:Nat)(l:List (Int×Int))(h:Rep P w (.slice (some a) l.length c) 2 16 (pwC l)) :
  ∃ A C w',(Builtin.append_ #[44,44] 44 #[.slice (some ⟨w.heap.size,0,none⟩) 0 0,.slice (some a) l.length c]).run prog (w.alloc (.cells #[] 68))=.ok (.slice A l.length C) w'/\w'.ownsRow w.heap.size 68 2 (.slice A l.length C) l.length (pwC l)/\Below w.heap.size w w':=by
 obtain ⟨i0,hi,hz0,hz1,hz2⟩:=info_parts j5b;obtain ⟨A0,C0,e0,hl,-,-,hcl⟩:=(h.over (znw w (.cells #[] 68))).open (z0c l) (by decide)
 cases e0
 obtain ⟨v',w',hr,ho,hg,-,hat⟩:=run_append_own_at (P:=prog) (w.alloc (.cells #[] 68)) w.heap.size 44 44 68 i0 _ 2 16 underlying44 hi hz0 hz1 hz2 rfl (by omega) _ 0 [] (z8Y w) a l.length c (pwC l) (z0c l)
  (fun j u hj=>hcl a rfl j u hj) (z5R l) (by simp only[maxLen];omega) (by omega) (by simp)
 rw[Nat.zero_add,List.nil_append]at ho
 have hv:∃ A C,v'=.slice A l.length C:=by
  rcases ho.2 with ⟨rfl,h0⟩ | ⟨g,cap,cur,rfl,_⟩
  ·rw[h0];exact ⟨none,0,rfl⟩
  ·exact ⟨_,_,rfl⟩
 obtain ⟨A,C,rfl⟩:=hv;refine ⟨A,C,w',hr,ho,?_⟩;have hb:=(Below.refl w.heap.size w).alloc (Nat.le_refl _) (.cells #[] 68);exact ⟨hg.os.trans hb.os,hg.tape.trans hb.tape,hg.output.trans hb.output,Nat.le_trans hb.size hg.size,fun k hk=>(hg.block k (by simp;omega) (by simp[Value.ownBlock];omega)).trans (hb.block k hk)⟩
theorem z5W{P:Nat->Prop}{ops:Array Oper}{rest:List Oper}{o:Oper}{a:Act}{w:World}{Q:Exit->Act->World->Prop}(hg:o.guard=none)(hty:o.type=44)(p q:Operand)
  (hop:o.op=Op.call { callee:=Callee.builtin Builtin.append,args:=#[p,q],argTypes:=#[44,44] }) (ad:Addr) (c:Nat) (l:List (Int×Int)) (hs:a.eval p=.slice (some ⟨w.heap.size,0,none⟩) 0 0) (hx:a.eval q=.slice (some ad) l.length c) (hW:Rep P w (.slice (some ad) l.length c) 2 16 (pwC l))
  (hK:∀ A C w',w'.ownsRow w.heap.size 68 2 (.slice A l.length C) l.length (pwC l)/\Below w.heap.size w w'->wpList prog ops Q rest (a.put o.dst (.slice A l.length C)) w'):wpList prog ops Q (o :: rest) a (w.alloc (.cells #[] 68)):=by
 refine wpList_plain hg fun _ hK'=>?_;unfold Oper.wp;obtain ⟨A,C,w',hr,h1⟩:=z7x w ad c l hW
 simp[execOp,hop,resolve,invoke,builtin,hs,hx,hty,hr,Result.andThen]
 exact hK' _ _ (hK _ _ _ h1)
theorem z5S(l:List (Int×Int))(v:Value)(P:Nat->Prop)(w:World)(h:Rep P w v 2 16 (pwC l)) :
  Calls prog 41 #[v] w fun e w'=>∃ u,e=.returned u/\Rep (fun b=>w.heap.size<=b) w' u 2 16 (pwC l)/\Below w.heap.size w w':=by
 obtain ⟨A,C,rfl,hl,h0,-,-⟩:=id (h.open (z0c l) (by decide))
 cases A with
 | none =>
  obtain ⟨hn,rfl⟩:=h0 rfl;obtain rfl:l=[]:=List.length_eq_zero_iff.1 hn;have hq:=fun w=>q0f w none 0 0;clear h h0
  go_enter func41,ntmps41
  go_wp2;go_ret;exact ⟨_,rfl,Rep.nil _ _ _ _,Below.refl _ _⟩
 | some a =>
  have hq:=fun w=>q0f w (some a) l.length C;have HH:=hide h;clear h h0
  go_enter func41,ntmps41
  go_upto_region 3 with fail
  apply wp_region_lit
  iterate 6 go_step
  refine z5W rfl rfl _ _ rfl a C l rfl rfl HH.out ?_;rintro A' C' w' ⟨h1,h2⟩;have H1:=hide h1;have H2:=hide h2;clear h1 h2;go_wp2;go_ret;exact ⟨_,rfl,Rep.own H1.out (by omega),H2.out⟩
end Pv
namespace Pv
open Go.RowKit
structure Lk where
 on:Bool
 gone:Bool
 base:Int
 told:List (Int×Int)
 fresh:Bool
 done:List Int
 out:Ln.Line
 h0:Int
 h1:Int
 h2:Int
 h3:Int
structure Pr where
 h:Int
 t:Int
 s:St
 set:List (Int×Int)
 L:Nat->Lk
 ml:Int
 mn:Int
 q:List (Int×Pkt)
structure LkV where
 told:Value
 done:Value
 said:Value
 due:Value
structure PrV where
 ws:Value
 set:Value
 l:Nat->LkV
 q:Value
def lkL(x:Lk)(v:LkV):List Value:=[.bool x.on,.bool x.gone,.int .i64 x.base,v.told,.bool x.fresh,v.done,v.said,v.due,.int .i64 x.out.g,.bool x.out.cl,.int .i64 x.h0,.int .i64 x.h1,.int .i64 x.h2,.int .i64 x.h3]
def prC(p:Pr)(v:PrV):Array Value:=(([.int .i64 p.h,.int .i64 p.t]:List Value) ++ ((stC p.s v.ws).toList ++ (v.set :: (lkL (p.L 0) (v.l 0) ++ (lkL (p.L 1) (v.l 1) ++ [.int .i64 p.ml,.int .i64 p.mn,v.q]))))).toArray
theorem z0a(p:Pr)(v:PrV):(prC p v).size=97:=rfl
def akL(x:Int×Pkt)(y:Value×Value):List Value:=[.int .i64 x.1,.int .i64 x.2.k,.int .i64 x.2.i,.int .i64 x.2.v,.int .i64 x.2.n,y.1,y.2]
def quL:List (Int×Pkt)->List (Value×Value)->List Value
 | x :: q,y :: z=>akL x y ++ quL q z
 | _,_=>[]
def q3m(P:Nat->Prop)(w:World)(v:Value)(q:List (Int×Pkt)):Prop:=
 ∃ z:List (Value×Value),z.length=q.length/\Rep P w v 7 80 (quL q z)/\∀ (i:Nat) (x:Int×Pkt) (y:Value×Value),q[i]?=some x->z[i]?=some y->Rep P w y.1 2 16 (pwC x.2.S)/\Rep P w y.2 1 8 (inC x.2.D)
structure z5s(P:Nat->Prop)(w:World)(x:Lk)(v:LkV):Prop where
 told:Rep P w v.told 2 16 (pwC x.told)
 done:Rep P w v.done 1 8 (inC x.done)
 said:z0D P w v.said 1 16 (txC x.out.S)
 due:z0D P w v.due 1 8 (inC x.out.D)
structure PIn(P:Nat->Prop)(w:World)(p:Pr)(v:PrV):Prop where
 ws:Rep P w v.ws 8 64 (wsL p.s.W)
 set:Rep P w v.set 2 16 (pwC p.set)
 lk:∀ c,c<2->z5s P w (p.L c) (v.l c)
 q:q3m P w v.q p.q
section
variable {P P':Nat->Prop} {w w':World}
theorem q3m.mono{v:Value}{q:List (Int×Pkt)}(h:q3m P w v q)(hp:∀ b,b<w.heap.size->P b->P' b):q3m P' w v q:=by
 obtain ⟨z,h1,h2,h3⟩:=h;exact ⟨z,h1,h2.mono hp,fun i x y hx hy=>⟨(h3 i x y hx hy).1.mono hp,(h3 i x y hx hy).2.mono hp⟩⟩
theorem q3m.keep{v:Value}{q:List (Int×Pkt)}(h:q3m P w v q)(hk:∀ b,P b->b<w.heap.size->w'.heap[b]?=w.heap[b]?):q3m P w' v q:=by
 obtain ⟨z,h1,h2,h3⟩:=h;exact ⟨z,h1,h2.keep hk,fun i x y hx hy=>⟨(h3 i x y hx hy).1.keep hk,(h3 i x y hx hy).2.keep hk⟩⟩
theorem z5s.mono{x:Lk}{v:LkV}(h:z5s P w x v)(hp:∀ b,b<w.heap.size->P b->P' b):z5s P' w x v:=⟨h.told.mono hp,h.done.mono hp,h.said.mono hp,h.due.mono hp⟩
theorem z5s.keep{x:Lk}{v:LkV}(h:z5s P w x v)(hk:∀ b,P b->b<w.heap.size->w'.heap[b]?=w.heap[b]?):z5s P w' x v:=⟨h.told.keep hk,h.done.keep hk,h.said.keep hk,h.due.keep hk⟩
theorem PIn.mono{p:Pr}{v:PrV}(h:PIn P w p v)(hp:∀ b,b<w.heap.size->P b->P' b):PIn P' w p v:=⟨h.ws.mono hp,h.set.mono hp,fun c hc=>(h.lk c hc).mono hp,h.q.mono hp⟩
theorem PIn.keep{p:Pr}{v:PrV}(h:PIn P w p v)(hk:∀ b,P b->b<w.heap.size->w'.heap[b]?=w.heap[b]?):PIn P w' p v:=⟨h.ws.keep hk,h.set.keep hk,fun c hc=>(h.lk c hc).keep hk,h.q.keep hk⟩
theorem PIn.over{p:Pr}{v:PrV}(h:PIn P w p v)(hb:Below w.heap.size w w'):PIn P w' p v:=h.keep fun b _ hlt=>hb.block b hlt
end
end Pv
namespace Pv
open Go.RowKit
section
variable {P:Nat->Prop} {w w':World} {v:Value} {sz bts:Nat} {cs:List Value}
theorem Rep.q2h{W:List Wt}(h:Rep P w v 8 64 (wsL W)):∃ A C b o,v=.slice A W.length C/\z2n w A b o W/\(A=none->C=0)/\(0<W.length->P b):=by
 obtain ⟨A,n,C,h1,h2,h3,h4,h5⟩:=h;rw[z1x]at h2;have e:n=W.length:=by omega
 subst e
 rcases Nat.eq_zero_or_pos W.length with h0 | h0
 ·refine ⟨A,C,0,0,h1,⟨fun h=>by omega,h3,fun i x hx=>?_⟩,h4.1,fun h=>by omega⟩
  have:=(List.getElem?_eq_some_iff.1 hx).1;omega
 ·obtain ⟨b,off,rfl,hp,_,hc⟩:=h5 h0;refine ⟨_,C,b,off,h1,⟨fun _=>rfl,h3,fun i x hx=>?_⟩,h4.1,fun _=>hp⟩
  have k:∀ j,j<8->∀ u,(wtL x)[j]?=some u->w.cell? ⟨b,off+i * 8+j,none⟩=some u:=fun j hj u hu=>by
   rw[Nat.add_assoc];exact hc _ _ ((z4p W i x j hx hj).trans hu)
  exact ⟨k 0 (by omega) _ rfl,k 1 (by omega) _ rfl,k 2 (by omega) _ rfl,k 3 (by omega) _ rfl,k 4 (by omega) _ rfl,k 5 (by omega) _ rfl,k 6 (by omega) _ rfl,k 7 (by omega) _ rfl⟩
end
end Pv
section
open Go.RowKit
theorem z4G{fn:Func}{p q:Tmp}(h:fn.results=#[.cell p 43,.tmp q])(tmps:Array Value)(w:World)(g:Nat)(cs:Array Value)(v:Value)
  (hp:tmps.getD p undef=.pointer (some ⟨g,0,none⟩)) (hq:tmps.getD q undef=v) (hg:SAt w g cs) (hsz:cs.size=63) :
  (results fn tmps).run prog w=.ok (.tuple #[.agg cs,v]) w:=by
 have hp':tmps[p]?.getD undef=.pointer (some ⟨g,0,none⟩):=by simpa using hp
 have hq':tmps[q]?.getD undef=v:=by simpa using hq
 simp[results,h,hp',hq',asAddr,run_loadVar_row w g 43 43 cs (0,0) _ hg underlying43 rfl (by rw[z0t,hsz])]
theorem z0H{f:Func}{p q:Tmp}(hres:f.results=#[.cell p 43,.tmp q]){B g:Nat}{w wq:World}{zs:Array Value}(R:SAt wq g zs)(hz:zs.size=63)(H:Below B w wq)(hB:B<=g)(s':St)(sl:Value)(er:Int)(r:St×Int)(hr:r=(s',er))(act:Act)
  (h8:act.tmps.getD p undef=.pointer (some ⟨g,0,none⟩)) (h9:act.tmps.getD q undef=.int .i64 er) (hd:act.defers=[]) :
  bodyPost prog f (fun e w'=>e=.returned (.tuple #[.agg (stC r.1 sl),.int .i64 r.2])/\Below B w w') Exit.ret act (wq.setCells g 0 (stC s' sl).toList):=by
 subst hr;have R3:=R.z0G (ds:=stC s' sl) (by rw[hz];rfl)
 exact bodyPost_ret (v:=.tuple #[.agg (stC s' sl),.int .i64 er]) (z4G hres _ _ g _ _ h8 h9 R3 rfl) hd ⟨rfl,z0b hB _ _ _ H⟩
theorem z1K{ops:Array Oper}{rest:List Oper}{o:Oper}{a:Act}{w:World}{Q:Exit->Act->World->Prop}(hg:o.guard=none)(x:Operand)(hop:o.op=Op.move x)(hK:wpList prog ops Q rest (a.put o.dst (a.eval x)) w) :
  wpList prog ops Q (o :: rest) a w:=by
 refine wpList_plain hg fun _ hK'=>?_;unfold Oper.wp
 simp[execOp,hop]
 exact hK' _ _ hK
theorem z0o:Z63.size=63:=rfl
theorem z2K{b k o:Nat}(hk:k≠b)(vs:List Value)(p:Nat)(w:World):(w.setCells b p vs).cell? ⟨k,o,none⟩=w.cell? ⟨k,o,none⟩:=World.cell?_of_block (w:=w) (z1a hk vs p w)
theorem z2n.sets{w:World}{ao:Option Addr}{b o g:Nat}{W:List Wt}(h:z2n w ao b o W)(hg:0<W.length->b≠g)(vs:List Value)(p:Nat):z2n (w.setCells g p vs) ao b o W:=by
 refine ⟨h.adr,h.len,fun i x hx=>?_⟩;have hne:b≠g:=hg (by have:=(List.getElem?_eq_some_iff.1 hx).1;omega)
 obtain ⟨h0,h1,h2,h3,h4,h5,h6,h7⟩:=h.cell i x hx;exact ⟨(z2K hne _ _ _).trans h0,(z2K hne _ _ _).trans h1,(z2K hne _ _ _).trans h2,(z2K hne _ _ _).trans h3,(z2K hne _ _ _).trans h4,(z2K hne _ _ _).trans h5,(z2K hne _ _ _).trans h6,(z2K hne _ _ _).trans h7⟩
theorem z2n.but{w w':World}{ao:Option Addr}{b o g:Nat}{W:List Wt}(h:z2n w ao b o W)(hb:But g w w')(hg:0<W.length->b≠g):z2n w' ao b o W:=by
 refine ⟨h.adr,h.len,fun i x hx=>?_⟩;have hne:b≠g:=hg (by have:=(List.getElem?_eq_some_iff.1 hx).1;omega)
 have k:∀ o,w'.cell? ⟨b,o,none⟩=w.cell? ⟨b,o,none⟩:=fun o=>World.cell?_of_block (w:=w) (hb.block b hne);obtain ⟨h0,h1,h2,h3,h4,h5,h6,h7⟩:=h.cell i x hx;exact ⟨(k _).trans h0,(k _).trans h1,(k _).trans h2,(k _).trans h3,(k _).trans h4,(k _).trans h5,(k _).trans h6,(k _).trans h7⟩
theorem j8G(b:Bk)(n:Int)(c:Nat)(w:World)(hc:w.cell? ⟨c,0,none⟩=some (.int .i64 0))(hcl:c<w.heap.size) :
  Calls prog 150 #[.agg #[.int .i64 b.f0,.int .i64 b.f1,.int .i64 b.f2,.int .i64 b.f3,.int .i64 b.bo,.int .i64 b.wa,.int .i64 b.bu],(.func (.func 172) #[] #[.pointer (some ⟨c,0,none⟩)]),(.func (.func 173) #[] #[]),.int .i64 n] w fun e w'=>e=.returned (.tuple #[.agg #[.int .i64 (mv b 0 4 n).1.f0,.int .i64 (mv b 0 4 n).1.f1,.int .i64 (mv b 0 4 n).1.f2,.int .i64 (mv b 0 4 n).1.f3,.int .i64 (mv b 0 4 n).1.bo,.int .i64 (mv b 0 4 n).1.wa,.int .i64 (mv b 0 4 n).1.bu],.int .i64 (mv b 0 4 n).2])/\Below w.heap.size w w':=by
 by_cases hg:b.good=true
 ·by_cases hn:0<=n/\n<=1125899906842624
  ·have h1:¬ (b.good=false∨¬ (0<=n/\n<=1125899906842624)):=by rw[hg];simp[hn]
   by_cases hl:b.f0<n
   ·have e:mv b 0 4 n=(b,7):=by rw[mv,if_neg h1,if_pos (show b.get 0<n from hl)]
    rw[e];exact q0K b.f0 b.f1 b.f2 b.f3 b.bo b.wa b.bu n c _ w hc hcl hg hn.1 hn.2 hl
   ·have e:mv b 0 4 n=((b.put 0 (b.f0 - n)).put 4 (b.bo+n),0):=by rw[mv,if_neg h1,if_neg (show ¬ b.get 0<n from hl)];rfl
    rw[e];exact q3I b.f0 b.f1 b.f2 b.f3 b.bo b.wa b.bu n c w hc hcl hg hn.1 hn.2 (by omega)
  ·have e:mv b 0 4 n=(b,2):=by rw[mv,if_pos (.inr hn)]
   rw[e];exact z0E b.f0 b.f1 b.f2 b.f3 b.bo b.wa b.bu n _ _ w hg hn
 ·have e:mv b 0 4 n=(b,2):=by rw[mv,if_pos (.inl (by simpa using hg))]
  rw[e];exact z0w b.f0 b.f1 b.f2 b.f3 b.bo b.wa b.bu n _ _ w (by simpa [Bk.good] using hg)
theorem j8R(b:Bk)(n:Int)(c:Nat)(w:World)(hc:w.cell? ⟨c,0,none⟩=some (.int .i64 1))(hcl:c<w.heap.size) :
  Calls prog 150 #[.agg #[.int .i64 b.f0,.int .i64 b.f1,.int .i64 b.f2,.int .i64 b.f3,.int .i64 b.bo,.int .i64 b.wa,.int .i64 b.bu],(.func (.func 172) #[] #[.pointer (some ⟨c,0,none⟩)]),(.func (.func 173) #[] #[]),.int .i64 n] w fun e w'=>e=.returned (.tuple #[.agg #[.int .i64 (mv b 1 4 n).1.f0,.int .i64 (mv b 1 4 n).1.f1,.int .i64 (mv b 1 4 n).1.f2,.int .i64 (mv b 1 4 n).1.f3,.int .i64 (mv b 1 4 n).1.bo,.int .i64 (mv b 1 4 n).1.wa,.int .i64 (mv b 1 4 n).1.bu],.int .i64 (mv b 1 4 n).2])/\Below w.heap.size w w':=by
 by_cases hg:b.good=true
 ·by_cases hn:0<=n/\n<=1125899906842624
  ·have h1:¬ (b.good=false∨¬ (0<=n/\n<=1125899906842624)):=by rw[hg];simp[hn]
   by_cases hl:b.f1<n
   ·have e:mv b 1 4 n=(b,7):=by rw[mv,if_neg h1,if_pos (show b.get 1<n from hl)]
    rw[e];exact z9U b.f0 b.f1 b.f2 b.f3 b.bo b.wa b.bu n c _ w hc hcl hg hn.1 hn.2 hl
   ·have e:mv b 1 4 n=((b.put 1 (b.f1 - n)).put 4 (b.bo+n),0):=by rw[mv,if_neg h1,if_neg (show ¬ b.get 1<n from hl)];rfl
    rw[e];exact q4E b.f0 b.f1 b.f2 b.f3 b.bo b.wa b.bu n c w hc hcl hg hn.1 hn.2 (by omega)
  ·have e:mv b 1 4 n=(b,2):=by rw[mv,if_pos (.inr hn)]
   rw[e];exact z0E b.f0 b.f1 b.f2 b.f3 b.bo b.wa b.bu n _ _ w hg hn
 ·have e:mv b 1 4 n=(b,2):=by rw[mv,if_pos (.inl (by simpa using hg))]
  rw[e];exact z0w b.f0 b.f1 b.f2 b.f3 b.bo b.wa b.bu n _ _ w (by simpa [Bk.good] using hg)
theorem j8u(b:Bk)(n:Int)(c:Nat)(w:World)(hc:w.cell? ⟨c,0,none⟩=some (.int .i64 2))(hcl:c<w.heap.size) :
  Calls prog 150 #[.agg #[.int .i64 b.f0,.int .i64 b.f1,.int .i64 b.f2,.int .i64 b.f3,.int .i64 b.bo,.int .i64 b.wa,.int .i64 b.bu],(.func (.func 172) #[] #[.pointer (some ⟨c,0,none⟩)]),(.func (.func 173) #[] #[]),.int .i64 n] w fun e w'=>e=.returned (.tuple #[.agg #[.int .i64 (mv b 2 4 n).1.f0,.int .i64 (mv b 2 4 n).1.f1,.int .i64 (mv b 2 4 n).1.f2,.int .i64 (mv b 2 4 n).1.f3,.int .i64 (mv b 2 4 n).1.bo,.int .i64 (mv b 2 4 n).1.wa,.int .i64 (mv b 2 4 n).1.bu],.int .i64 (mv b 2 4 n).2])/\Below w.heap.size w w':=by
 by_cases hg:b.good=true
 ·by_cases hn:0<=n/\n<=1125899906842624
  ·have h1:¬ (b.good=false∨¬ (0<=n/\n<=1125899906842624)):=by rw[hg];simp[hn]
   by_cases hl:b.f2<n
   ·have e:mv b 2 4 n=(b,7):=by rw[mv,if_neg h1,if_pos (show b.get 2<n from hl)]
    rw[e];exact q0D b.f0 b.f1 b.f2 b.f3 b.bo b.wa b.bu n c _ w hc hcl hg hn.1 hn.2 hl
   ·have e:mv b 2 4 n=((b.put 2 (b.f2 - n)).put 4 (b.bo+n),0):=by rw[mv,if_neg h1,if_neg (show ¬ b.get 2<n from hl)];rfl
    rw[e];exact q4F b.f0 b.f1 b.f2 b.f3 b.bo b.wa b.bu n c w hc hcl hg hn.1 hn.2 (by omega)
  ·have e:mv b 2 4 n=(b,2):=by rw[mv,if_pos (.inr hn)]
   rw[e];exact z0E b.f0 b.f1 b.f2 b.f3 b.bo b.wa b.bu n _ _ w hg hn
 ·have e:mv b 2 4 n=(b,2):=by rw[mv,if_pos (.inl (by simpa using hg))]
  rw[e];exact z0w b.f0 b.f1 b.f2 b.f3 b.bo b.wa b.bu n _ _ w (by simpa [Bk.good] using hg)
theorem j8N(b:Bk)(n:Int)(c:Nat)(w:World)(hc:w.cell? ⟨c,0,none⟩=some (.int .i64 3))(hcl:c<w.heap.size) :
  Calls prog 150 #[.agg #[.int .i64 b.f0,.int .i64 b.f1,.int .i64 b.f2,.int .i64 b.f3,.int .i64 b.bo,.int .i64 b.wa,.int .i64 b.bu],(.func (.func 172) #[] #[.pointer (some ⟨c,0,none⟩)]),(.func (.func 173) #[] #[]),.int .i64 n] w fun e w'=>e=.returned (.tuple #[.agg #[.int .i64 (mv b 3 4 n).1.f0,.int .i64 (mv b 3 4 n).1.f1,.int .i64 (mv b 3 4 n).1.f2,.int .i64 (mv b 3 4 n).1.f3,.int .i64 (mv b 3 4 n).1.bo,.int .i64 (mv b 3 4 n).1.wa,.int .i64 (mv b 3 4 n).1.bu],.int .i64 (mv b 3 4 n).2])/\Below w.heap.size w w':=by
 by_cases hg:b.good=true
 ·by_cases hn:0<=n/\n<=1125899906842624
  ·have h1:¬ (b.good=false∨¬ (0<=n/\n<=1125899906842624)):=by rw[hg];simp[hn]
   by_cases hl:b.f3<n
   ·have e:mv b 3 4 n=(b,7):=by rw[mv,if_neg h1,if_pos (show b.get 3<n from hl)]
    rw[e];exact q0j b.f0 b.f1 b.f2 b.f3 b.bo b.wa b.bu n c _ w hc hcl hg hn.1 hn.2 hl
   ·have e:mv b 3 4 n=((b.put 3 (b.f3 - n)).put 4 (b.bo+n),0):=by rw[mv,if_neg h1,if_neg (show ¬ b.get 3<n from hl)];rfl
    rw[e];exact q5a b.f0 b.f1 b.f2 b.f3 b.bo b.wa b.bu n c w hc hcl hg hn.1 hn.2 (by omega)
  ·have e:mv b 3 4 n=(b,2):=by rw[mv,if_pos (.inr hn)]
   rw[e];exact z0E b.f0 b.f1 b.f2 b.f3 b.bo b.wa b.bu n _ _ w hg hn
 ·have e:mv b 3 4 n=(b,2):=by rw[mv,if_pos (.inl (by simpa using hg))]
  rw[e];exact z0w b.f0 b.f1 b.f2 b.f3 b.bo b.wa b.bu n _ _ w (by simpa [Bk.good] using hg)
theorem j8C(b:Bk)(n:Int)(c:Nat)(w:World)(hc:w.cell? ⟨c,0,none⟩=some (.int .i64 0))(hcl:c<w.heap.size) :
  Calls prog 150 #[.agg #[.int .i64 b.f0,.int .i64 b.f1,.int .i64 b.f2,.int .i64 b.f3,.int .i64 b.bo,.int .i64 b.wa,.int .i64 b.bu],(.func (.func 174) #[] #[]),(.func (.func 172) #[] #[.pointer (some ⟨c,0,none⟩)]),.int .i64 n] w fun e w'=>e=.returned (.tuple #[.agg #[.int .i64 (mv b 5 0 n).1.f0,.int .i64 (mv b 5 0 n).1.f1,.int .i64 (mv b 5 0 n).1.f2,.int .i64 (mv b 5 0 n).1.f3,.int .i64 (mv b 5 0 n).1.bo,.int .i64 (mv b 5 0 n).1.wa,.int .i64 (mv b 5 0 n).1.bu],.int .i64 (mv b 5 0 n).2])/\Below w.heap.size w w':=by
 by_cases hg:b.good=true
 ·by_cases hn:0<=n/\n<=1125899906842624
  ·have h1:¬ (b.good=false∨¬ (0<=n/\n<=1125899906842624)):=by rw[hg];simp[hn]
   by_cases hl:b.wa<n
   ·have e:mv b 5 0 n=(b,7):=by rw[mv,if_neg h1,if_pos (show b.get 5<n from hl)]
    rw[e];exact z2H b.f0 b.f1 b.f2 b.f3 b.bo b.wa b.bu n _ w hg hn.1 hn.2 hl
   ·have e:mv b 5 0 n=((b.put 5 (b.wa - n)).put 0 (b.f0+n),0):=by rw[mv,if_neg h1,if_neg (show ¬ b.get 5<n from hl)];rfl
    rw[e];exact q5I b.f0 b.f1 b.f2 b.f3 b.bo b.wa b.bu n c w hc hcl hg hn.1 hn.2 (by omega)
  ·have e:mv b 5 0 n=(b,2):=by rw[mv,if_pos (.inr hn)]
   rw[e];exact z0E b.f0 b.f1 b.f2 b.f3 b.bo b.wa b.bu n _ _ w hg hn
 ·have e:mv b 5 0 n=(b,2):=by rw[mv,if_pos (.inl (by simpa using hg))]
  rw[e];exact z0w b.f0 b.f1 b.f2 b.f3 b.bo b.wa b.bu n _ _ w (by simpa [Bk.good] using hg)
theorem j8g(b:Bk)(n:Int)(c:Nat)(w:World)(hc:w.cell? ⟨c,0,none⟩=some (.int .i64 1))(hcl:c<w.heap.size) :
  Calls prog 150 #[.agg #[.int .i64 b.f0,.int .i64 b.f1,.int .i64 b.f2,.int .i64 b.f3,.int .i64 b.bo,.int .i64 b.wa,.int .i64 b.bu],(.func (.func 174) #[] #[]),(.func (.func 172) #[] #[.pointer (some ⟨c,0,none⟩)]),.int .i64 n] w fun e w'=>e=.returned (.tuple #[.agg #[.int .i64 (mv b 5 1 n).1.f0,.int .i64 (mv b 5 1 n).1.f1,.int .i64 (mv b 5 1 n).1.f2,.int .i64 (mv b 5 1 n).1.f3,.int .i64 (mv b 5 1 n).1.bo,.int .i64 (mv b 5 1 n).1.wa,.int .i64 (mv b 5 1 n).1.bu],.int .i64 (mv b 5 1 n).2])/\Below w.heap.size w w':=by
 by_cases hg:b.good=true
 ·by_cases hn:0<=n/\n<=1125899906842624
  ·have h1:¬ (b.good=false∨¬ (0<=n/\n<=1125899906842624)):=by rw[hg];simp[hn]
   by_cases hl:b.wa<n
   ·have e:mv b 5 1 n=(b,7):=by rw[mv,if_neg h1,if_pos (show b.get 5<n from hl)]
    rw[e];exact z2H b.f0 b.f1 b.f2 b.f3 b.bo b.wa b.bu n _ w hg hn.1 hn.2 hl
   ·have e:mv b 5 1 n=((b.put 5 (b.wa - n)).put 1 (b.f1+n),0):=by rw[mv,if_neg h1,if_neg (show ¬ b.get 5<n from hl)];rfl
    rw[e];exact q4A b.f0 b.f1 b.f2 b.f3 b.bo b.wa b.bu n c w hc hcl hg hn.1 hn.2 (by omega)
  ·have e:mv b 5 1 n=(b,2):=by rw[mv,if_pos (.inr hn)]
   rw[e];exact z0E b.f0 b.f1 b.f2 b.f3 b.bo b.wa b.bu n _ _ w hg hn
 ·have e:mv b 5 1 n=(b,2):=by rw[mv,if_pos (.inl (by simpa using hg))]
  rw[e];exact z0w b.f0 b.f1 b.f2 b.f3 b.bo b.wa b.bu n _ _ w (by simpa [Bk.good] using hg)
theorem j8S(b:Bk)(n:Int)(c:Nat)(w:World)(hc:w.cell? ⟨c,0,none⟩=some (.int .i64 2))(hcl:c<w.heap.size) :
  Calls prog 150 #[.agg #[.int .i64 b.f0,.int .i64 b.f1,.int .i64 b.f2,.int .i64 b.f3,.int .i64 b.bo,.int .i64 b.wa,.int .i64 b.bu],(.func (.func 174) #[] #[]),(.func (.func 172) #[] #[.pointer (some ⟨c,0,none⟩)]),.int .i64 n] w fun e w'=>e=.returned (.tuple #[.agg #[.int .i64 (mv b 5 2 n).1.f0,.int .i64 (mv b 5 2 n).1.f1,.int .i64 (mv b 5 2 n).1.f2,.int .i64 (mv b 5 2 n).1.f3,.int .i64 (mv b 5 2 n).1.bo,.int .i64 (mv b 5 2 n).1.wa,.int .i64 (mv b 5 2 n).1.bu],.int .i64 (mv b 5 2 n).2])/\Below w.heap.size w w':=by
 by_cases hg:b.good=true
 ·by_cases hn:0<=n/\n<=1125899906842624
  ·have h1:¬ (b.good=false∨¬ (0<=n/\n<=1125899906842624)):=by rw[hg];simp[hn]
   by_cases hl:b.wa<n
   ·have e:mv b 5 2 n=(b,7):=by rw[mv,if_neg h1,if_pos (show b.get 5<n from hl)]
    rw[e];exact z2H b.f0 b.f1 b.f2 b.f3 b.bo b.wa b.bu n _ w hg hn.1 hn.2 hl
   ·have e:mv b 5 2 n=((b.put 5 (b.wa - n)).put 2 (b.f2+n),0):=by rw[mv,if_neg h1,if_neg (show ¬ b.get 5<n from hl)];rfl
    rw[e];exact q3R b.f0 b.f1 b.f2 b.f3 b.bo b.wa b.bu n c w hc hcl hg hn.1 hn.2 (by omega)
  ·have e:mv b 5 2 n=(b,2):=by rw[mv,if_pos (.inr hn)]
   rw[e];exact z0E b.f0 b.f1 b.f2 b.f3 b.bo b.wa b.bu n _ _ w hg hn
 ·have e:mv b 5 2 n=(b,2):=by rw[mv,if_pos (.inl (by simpa using hg))]
  rw[e];exact z0w b.f0 b.f1 b.f2 b.f3 b.bo b.wa b.bu n _ _ w (by simpa [Bk.good] using hg)
theorem j8O(b:Bk)(n:Int)(c:Nat)(w:World)(hc:w.cell? ⟨c,0,none⟩=some (.int .i64 3))(hcl:c<w.heap.size) :
  Calls prog 150 #[.agg #[.int .i64 b.f0,.int .i64 b.f1,.int .i64 b.f2,.int .i64 b.f3,.int .i64 b.bo,.int .i64 b.wa,.int .i64 b.bu],(.func (.func 174) #[] #[]),(.func (.func 172) #[] #[.pointer (some ⟨c,0,none⟩)]),.int .i64 n] w fun e w'=>e=.returned (.tuple #[.agg #[.int .i64 (mv b 5 3 n).1.f0,.int .i64 (mv b 5 3 n).1.f1,.int .i64 (mv b 5 3 n).1.f2,.int .i64 (mv b 5 3 n).1.f3,.int .i64 (mv b 5 3 n).1.bo,.int .i64 (mv b 5 3 n).1.wa,.int .i64 (mv b 5 3 n).1.bu],.int .i64 (mv b 5 3 n).2])/\Below w.heap.size w w':=by
 by_cases hg:b.good=true
 ·by_cases hn:0<=n/\n<=1125899906842624
  ·have h1:¬ (b.good=false∨¬ (0<=n/\n<=1125899906842624)):=by rw[hg];simp[hn]
   by_cases hl:b.wa<n
   ·have e:mv b 5 3 n=(b,7):=by rw[mv,if_neg h1,if_pos (show b.get 5<n from hl)]
    rw[e];exact z2H b.f0 b.f1 b.f2 b.f3 b.bo b.wa b.bu n _ w hg hn.1 hn.2 hl
   ·have e:mv b 5 3 n=((b.put 5 (b.wa - n)).put 3 (b.f3+n),0):=by rw[mv,if_neg h1,if_neg (show ¬ b.get 5<n from hl)];rfl
    rw[e];exact q4g b.f0 b.f1 b.f2 b.f3 b.bo b.wa b.bu n c w hc hcl hg hn.1 hn.2 (by omega)
  ·have e:mv b 5 3 n=(b,2):=by rw[mv,if_pos (.inr hn)]
   rw[e];exact z0E b.f0 b.f1 b.f2 b.f3 b.bo b.wa b.bu n _ _ w hg hn
 ·have e:mv b 5 3 n=(b,2):=by rw[mv,if_pos (.inl (by simpa using hg))]
  rw[e];exact z0w b.f0 b.f1 b.f2 b.f3 b.bo b.wa b.bu n _ _ w (by simpa [Bk.good] using hg)
theorem j8L(b:Bk)(n:Int)(w:World) :
  Calls prog 150 #[.agg #[.int .i64 b.f0,.int .i64 b.f1,.int .i64 b.f2,.int .i64 b.f3,.int .i64 b.bo,.int .i64 b.wa,.int .i64 b.bu],(.func (.func 173) #[] #[]),(.func (.func 174) #[] #[]),.int .i64 n] w fun e w'=>e=.returned (.tuple #[.agg #[.int .i64 (mv b 4 5 n).1.f0,.int .i64 (mv b 4 5 n).1.f1,.int .i64 (mv b 4 5 n).1.f2,.int .i64 (mv b 4 5 n).1.f3,.int .i64 (mv b 4 5 n).1.bo,.int .i64 (mv b 4 5 n).1.wa,.int .i64 (mv b 4 5 n).1.bu],.int .i64 (mv b 4 5 n).2])/\Below w.heap.size w w':=by
 by_cases hg:b.good=true
 ·by_cases hn:0<=n/\n<=1125899906842624
  ·have h1:¬ (b.good=false∨¬ (0<=n/\n<=1125899906842624)):=by rw[hg];simp[hn]
   by_cases hl:b.bo<n
   ·have e:mv b 4 5 n=(b,7):=by rw[mv,if_neg h1,if_pos (show b.get 4<n from hl)]
    rw[e];exact z6o b.f0 b.f1 b.f2 b.f3 b.bo b.wa b.bu n _ w hg hn.1 hn.2 hl
   ·have e:mv b 4 5 n=((b.put 4 (b.bo - n)).put 5 (b.wa+n),0):=by rw[mv,if_neg h1,if_neg (show ¬ b.get 4<n from hl)];rfl
    rw[e];exact q3S b.f0 b.f1 b.f2 b.f3 b.bo b.wa b.bu n w hg hn.1 hn.2 (by omega)
  ·have e:mv b 4 5 n=(b,2):=by rw[mv,if_pos (.inr hn)]
   rw[e];exact z0E b.f0 b.f1 b.f2 b.f3 b.bo b.wa b.bu n _ _ w hg hn
 ·have e:mv b 4 5 n=(b,2):=by rw[mv,if_pos (.inl (by simpa using hg))]
  rw[e];exact z0w b.f0 b.f1 b.f2 b.f3 b.bo b.wa b.bu n _ _ w (by simpa [Bk.good] using hg)
theorem j8t(b:Bk)(n:Int)(w:World) :
  Calls prog 150 #[.agg #[.int .i64 b.f0,.int .i64 b.f1,.int .i64 b.f2,.int .i64 b.f3,.int .i64 b.bo,.int .i64 b.wa,.int .i64 b.bu],(.func (.func 173) #[] #[]),(.func (.func 195) #[] #[]),.int .i64 n] w fun e w'=>e=.returned (.tuple #[.agg #[.int .i64 (mv b 4 6 n).1.f0,.int .i64 (mv b 4 6 n).1.f1,.int .i64 (mv b 4 6 n).1.f2,.int .i64 (mv b 4 6 n).1.f3,.int .i64 (mv b 4 6 n).1.bo,.int .i64 (mv b 4 6 n).1.wa,.int .i64 (mv b 4 6 n).1.bu],.int .i64 (mv b 4 6 n).2])/\Below w.heap.size w w':=by
 by_cases hg:b.good=true
 ·by_cases hn:0<=n/\n<=1125899906842624
  ·have h1:¬ (b.good=false∨¬ (0<=n/\n<=1125899906842624)):=by rw[hg];simp[hn]
   by_cases hl:b.bo<n
   ·have e:mv b 4 6 n=(b,7):=by rw[mv,if_neg h1,if_pos (show b.get 4<n from hl)]
    rw[e];exact z6o b.f0 b.f1 b.f2 b.f3 b.bo b.wa b.bu n _ w hg hn.1 hn.2 hl
   ·have e:mv b 4 6 n=((b.put 4 (b.bo - n)).put 6 (b.bu+n),0):=by rw[mv,if_neg h1,if_neg (show ¬ b.get 4<n from hl)];rfl
    rw[e];exact q3G b.f0 b.f1 b.f2 b.f3 b.bo b.wa b.bu n w hg hn.1 hn.2 (by omega)
  ·have e:mv b 4 6 n=(b,2):=by rw[mv,if_pos (.inr hn)]
   rw[e];exact z0E b.f0 b.f1 b.f2 b.f3 b.bo b.wa b.bu n _ _ w hg hn
 ·have e:mv b 4 6 n=(b,2):=by rw[mv,if_pos (.inl (by simpa using hg))]
  rw[e];exact z0w b.f0 b.f1 b.f2 b.f3 b.bo b.wa b.bu n _ _ w (by simpa [Bk.good] using hg)
theorem j8m(b:Bk)(n:Int)(w:World) :
  Calls prog 150 #[.agg #[.int .i64 b.f0,.int .i64 b.f1,.int .i64 b.f2,.int .i64 b.f3,.int .i64 b.bo,.int .i64 b.wa,.int .i64 b.bu],(.func (.func 174) #[] #[]),(.func (.func 195) #[] #[]),.int .i64 n] w fun e w'=>e=.returned (.tuple #[.agg #[.int .i64 (mv b 5 6 n).1.f0,.int .i64 (mv b 5 6 n).1.f1,.int .i64 (mv b 5 6 n).1.f2,.int .i64 (mv b 5 6 n).1.f3,.int .i64 (mv b 5 6 n).1.bo,.int .i64 (mv b 5 6 n).1.wa,.int .i64 (mv b 5 6 n).1.bu],.int .i64 (mv b 5 6 n).2])/\Below w.heap.size w w':=by
 by_cases hg:b.good=true
 ·by_cases hn:0<=n/\n<=1125899906842624
  ·have h1:¬ (b.good=false∨¬ (0<=n/\n<=1125899906842624)):=by rw[hg];simp[hn]
   by_cases hl:b.wa<n
   ·have e:mv b 5 6 n=(b,7):=by rw[mv,if_neg h1,if_pos (show b.get 5<n from hl)]
    rw[e];exact z2H b.f0 b.f1 b.f2 b.f3 b.bo b.wa b.bu n _ w hg hn.1 hn.2 hl
   ·have e:mv b 5 6 n=((b.put 5 (b.wa - n)).put 6 (b.bu+n),0):=by rw[mv,if_neg h1,if_neg (show ¬ b.get 5<n from hl)];rfl
    rw[e];exact q3E b.f0 b.f1 b.f2 b.f3 b.bo b.wa b.bu n w hg hn.1 hn.2 (by omega)
  ·have e:mv b 5 6 n=(b,2):=by rw[mv,if_pos (.inr hn)]
   rw[e];exact z0E b.f0 b.f1 b.f2 b.f3 b.bo b.wa b.bu n _ _ w hg hn
 ·have e:mv b 5 6 n=(b,2):=by rw[mv,if_pos (.inl (by simpa using hg))]
  rw[e];exact z0w b.f0 b.f1 b.f2 b.f3 b.bo b.wa b.bu n _ _ w (by simpa [Bk.good] using hg)
theorem j0o(b:Bk)(d n:Int)(w:World):Calls prog 107 #[.agg #[.int .i64 b.f0,.int .i64 b.f1,.int .i64 b.f2,.int .i64 b.f3,.int .i64 b.bo,.int .i64 b.wa,.int .i64 b.bu],.int .i64 d,.int .i64 n] w fun e w'=>e=.returned (.tuple #[.agg #[.int .i64 (z2s b d n).1.f0,.int .i64 (z2s b d n).1.f1,.int .i64 (z2s b d n).1.f2,.int .i64 (z2s b d n).1.f3,.int .i64 (z2s b d n).1.bo,.int .i64 (z2s b d n).1.wa,.int .i64 (z2s b d n).1.bu],.int .i64 (z2s b d n).2])/\Below w.heap.size w w':=by
 by_cases h:0<=d/\d<4
 ·rw[z2s,if_pos h];refine q8L b.f0 b.f1 b.f2 b.f3 b.bo b.wa b.bu d n (mv b d.toNat 4 n).1.f0 (mv b d.toNat 4 n).1.f1 (mv b d.toNat 4 n).1.f2 (mv b d.toNat 4 n).1.f3 (mv b d.toNat 4 n).1.bo (mv b d.toNat 4 n).1.wa (mv b d.toNat 4 n).1.bu (mv b d.toNat 4 n).2 w h.1 h.2 ?_;intro c w hc hcl
  rcases (show d=0∨d=1∨d=2∨d=3 by omega) with rfl | rfl | rfl | rfl
  ·exact j8G b n c w hc hcl
  ·exact j8R b n c w hc hcl
  ·exact j8u b n c w hc hcl
  ·exact j8N b n c w hc hcl
 ·rw[z2s,if_neg h];exact j4y b.f0 b.f1 b.f2 b.f3 b.bo b.wa b.bu d n w h
theorem j4P(b:Bk)(d n:Int)(w:World):Calls prog 116 #[.agg #[.int .i64 b.f0,.int .i64 b.f1,.int .i64 b.f2,.int .i64 b.f3,.int .i64 b.bo,.int .i64 b.wa,.int .i64 b.bu],.int .i64 d,.int .i64 n] w fun e w'=>e=.returned (.tuple #[.agg #[.int .i64 (z7W b d n).1.f0,.int .i64 (z7W b d n).1.f1,.int .i64 (z7W b d n).1.f2,.int .i64 (z7W b d n).1.f3,.int .i64 (z7W b d n).1.bo,.int .i64 (z7W b d n).1.wa,.int .i64 (z7W b d n).1.bu],.int .i64 (z7W b d n).2])/\Below w.heap.size w w':=by
 by_cases h:0<=d/\d<4
 ·rw[z7W,if_pos h];refine j0T b.f0 b.f1 b.f2 b.f3 b.bo b.wa b.bu d n (mv b 5 d.toNat n).1.f0 (mv b 5 d.toNat n).1.f1 (mv b 5 d.toNat n).1.f2 (mv b 5 d.toNat n).1.f3 (mv b 5 d.toNat n).1.bo (mv b 5 d.toNat n).1.wa (mv b 5 d.toNat n).1.bu (mv b 5 d.toNat n).2 w h.1 h.2 ?_;intro c w hc hcl
  rcases (show d=0∨d=1∨d=2∨d=3 by omega) with rfl | rfl | rfl | rfl
  ·exact j8C b n c w hc hcl
  ·exact j8g b n c w hc hcl
  ·exact j8S b n c w hc hcl
  ·exact j8O b n c w hc hcl
 ·rw[z7W,if_neg h];exact j7f b.f0 b.f1 b.f2 b.f3 b.bo b.wa b.bu d n w h
theorem q5D(b:Bk)(n:Int)(w:World):Calls prog 110 #[.agg #[.int .i64 b.f0,.int .i64 b.f1,.int .i64 b.f2,.int .i64 b.f3,.int .i64 b.bo,.int .i64 b.wa,.int .i64 b.bu],.int .i64 n] w fun e w'=>e=.returned (.tuple #[.agg #[.int .i64 (z0U b n).1.f0,.int .i64 (z0U b n).1.f1,.int .i64 (z0U b n).1.f2,.int .i64 (z0U b n).1.f3,.int .i64 (z0U b n).1.bo,.int .i64 (z0U b n).1.wa,.int .i64 (z0U b n).1.bu],.int .i64 (z0U b n).2])/\Below w.heap.size w w':=
 q2e b.f0 b.f1 b.f2 b.f3 b.bo b.wa b.bu n (mv b 4 5 n).1.f0 (mv b 4 5 n).1.f1 (mv b 4 5 n).1.f2 (mv b 4 5 n).1.f3 (mv b 4 5 n).1.bo (mv b 4 5 n).1.wa (mv b 4 5 n).1.bu (mv b 4 5 n).2 w (j8L b n)
theorem q9V(b:Bk)(x y:Int)(w:World):Calls prog 156 #[.agg #[.int .i64 b.f0,.int .i64 b.f1,.int .i64 b.f2,.int .i64 b.f3,.int .i64 b.bo,.int .i64 b.wa,.int .i64 b.bu],.int .i64 x,.int .i64 y] w fun e w'=>e=.returned (.tuple #[.agg #[.int .i64 (z2C b x y).1.f0,.int .i64 (z2C b x y).1.f1,.int .i64 (z2C b x y).1.f2,.int .i64 (z2C b x y).1.f3,.int .i64 (z2C b x y).1.bo,.int .i64 (z2C b x y).1.wa,.int .i64 (z2C b x y).1.bu],.int .i64 (z2C b x y).2])/\Below w.heap.size w w':=by
 refine q9v b.f0 b.f1 b.f2 b.f3 b.bo b.wa b.bu x y (mv b 4 6 x).1.f0 (mv b 4 6 x).1.f1 (mv b 4 6 x).1.f2 (mv b 4 6 x).1.f3 (mv b 4 6 x).1.bo (mv b 4 6 x).1.wa (mv b 4 6 x).1.bu (mv b 4 6 x).2 (mv (mv b 4 6 x).1 5 6 y).1.f0 (mv (mv b 4 6 x).1 5 6 y).1.f1 (mv (mv b 4 6 x).1 5 6 y).1.f2 (mv (mv b 4 6 x).1 5 6 y).1.f3 (mv (mv b 4 6 x).1 5 6 y).1.bo (mv (mv b 4 6 x).1 5 6 y).1.wa (mv (mv b 4 6 x).1 5 6 y).1.bu (mv (mv b 4 6 x).1 5 6 y).2 (z2C b x y).1.f0 (z2C b x y).1.f1 (z2C b x y).1.f2 (z2C b x y).1.f3 (z2C b x y).1.bo (z2C b x y).1.wa (z2C b x y).1.bu (z2C b x y).2 w ?_ (j8t b x) (j8m (mv b 4 6 x).1 y);unfold z2C
 by_cases h1:(mv b 4 6 x).2=0
 ·by_cases h2:(mv (mv b 4 6 x).1 5 6 y).2=0
  ·rw[if_pos h1,if_pos h2];exact .inr (.inr ⟨h1,h2,rfl,rfl,rfl,rfl,rfl,rfl,rfl,rfl⟩)
  ·rw[if_pos h1,if_neg h2];exact .inr (.inl ⟨h1,h2,rfl,rfl,rfl,rfl,rfl,rfl,rfl,rfl⟩)
 ·rw[if_neg h1];exact .inl ⟨h1,rfl,rfl,rfl,rfl,rfl,rfl,rfl,rfl⟩
end
section
open Go.RowKit
theorem z9R{s:St}{d v n:Int}(h:z0S s d v≠0):z0N s d v n=(s,z0S s d v):=if_neg h
theorem z8o{s:St}{d v n:Int}(h:z0S s d v=0)(h1:(s.V v.toNat).dead=true):z0N s d v n=(s,15):=by rw[z0N,if_pos h,if_pos h1]
theorem z7r{s:St}{d v n:Int}(h:z0S s d v=0)(h1:(s.V v.toNat).dead=false)(h2:(decide (0<n) && inA n)=false):z0N s d v n=(s,2):=by rw[z0N,if_pos h,if_neg (by simp[h1]),if_neg (by simp[h2])]
theorem q0k{s:St}{d v n:Int}(h:z0S s d v=0)(h1:(s.V v.toNat).dead=false)(h2:(decide (0<n) && inA n)=true)(h3:shE (s.V v.toNat) n≠0):z0N s d v n=(s,shE (s.V v.toNat) n):=by rw[z0N,if_pos h,if_neg (by simp[h1]),if_pos h2,if_neg h3]
theorem z8N{s:St}{d v n:Int}(h:z0S s d v=0)(h1:(s.V v.toNat).dead=false)(h2:(decide (0<n) && inA n)=true)(h3:shE (s.V v.toNat) n=0)(h4:(z2s s.b d n).2≠0):z0N s d v n=(s,(z2s s.b d n).2):=by rw[z0N,if_pos h,if_neg (by simp[h1]),if_pos h2,if_pos h3,if_neg h4]
theorem q3g{s:St}{d v n:Int}(h:z0S s d v=0)(h1:(s.V v.toNat).dead=false)(h2:(decide (0<n) && inA n)=true)(h3:shE (s.V v.toNat) n=0)(h4:(z2s s.b d n).2=0):z0N s d v n=(q2N { s with b:=(z2s s.b d n).1 } d.toNat v.toNat n (shN (s.V v.toNat) n),0):=by rw[z0N,if_pos h,if_neg (by simp[h1]),if_pos h2,if_pos h3,if_pos h4]
theorem z9l{s:St}{d v:Int}(h:z0S s d v=0):z0h s=true/\(0<=v/\v<6)/\(0<=d/\d<4):=by
 unfold z0S z5J at h
 repeat' split at h
 all_goals first | (simp_all [z2N,z4I];done) | omega
theorem z4o{s:St}(h:z0h s=true)(k:Nat)(hk:k<6):vOk (s.V k)=true/\z3f s.S k 4=true:=by
 unfold z0h at h;simp only[Bool.and_eq_true]at h;have:=q2S h.1.2 hk;unfold j3d q4s at this;simp only[Bool.and_eq_true]at this;exact ⟨this.1,this.2.1⟩
theorem z6j{S:Nat->Nat->Int}{v d:Nat}(h:z3f S v 4=true)(hd:d<4):inA (S d v)=true:=by
 simp only[z3f,Bool.and_eq_true]at h
 rcases (show d=0∨d=1∨d=2∨d=3 by omega) with rfl | rfl | rfl | rfl
 ·exact h.1.1.1.2
 ·exact h.1.1.2
 ·exact h.1.2
 ·exact h.2
theorem j6p(s:St)(sl:Value)(x:Int):(stC s sl).setIfInBounds 0 (.int .i64 x)=stC { s with b:={ s.b with f0:=x } } sl:=rfl
theorem j5T(s:St)(sl:Value)(x:Int):(stC s sl).setIfInBounds 1 (.int .i64 x)=stC { s with b:={ s.b with f1:=x } } sl:=rfl
theorem j7O(s:St)(sl:Value)(x:Int):(stC s sl).setIfInBounds 2 (.int .i64 x)=stC { s with b:={ s.b with f2:=x } } sl:=rfl
theorem j6R(s:St)(sl:Value)(x:Int):(stC s sl).setIfInBounds 3 (.int .i64 x)=stC { s with b:={ s.b with f3:=x } } sl:=rfl
theorem j6P(s:St)(sl:Value)(x:Int):(stC s sl).setIfInBounds 4 (.int .i64 x)=stC { s with b:={ s.b with bo:=x } } sl:=rfl
theorem j6E(s:St)(sl:Value)(x:Int):(stC s sl).setIfInBounds 5 (.int .i64 x)=stC { s with b:={ s.b with wa:=x } } sl:=rfl
theorem j6Z(s:St)(sl:Value)(x:Int):(stC s sl).setIfInBounds 6 (.int .i64 x)=stC { s with b:={ s.b with bu:=x } } sl:=rfl
def z5Q(w:World)(b:Nat)(x:Bk):World:=((((((w.setCell ⟨b,0,none⟩ (.int .i64 x.f0)).setCell ⟨b,1,none⟩ (.int .i64 x.f1)).setCell ⟨b,2,none⟩ (.int .i64 x.f2)).setCell ⟨b,3,none⟩ (.int .i64 x.f3)).setCell ⟨b,4,none⟩ (.int .i64 x.bo)).setCell ⟨b,5,none⟩ (.int .i64 x.wa)).setCell ⟨b,6,none⟩ (.int .i64 x.bu)
theorem SAt.z5Q{w:World}{b c:Nat}{cs:Array Value}(h:SAt w c cs)(hc:c≠b)(x:Bk):SAt (Go.Proofs.YtmopekkhmhhcaaaGreat.z5Q w b x) c cs:=((((((h.other hc _).other hc _).other hc _).other hc _).other hc _).other hc _).other hc _
theorem q5E{B b:Nat}{w w':World}(h:Below B w w')(hB:B<=b)(x:Bk):Below B w (z5Q w' b x):=((((((h.setCell hB _).setCell hB _).setCell hB _).setCell hB _).setCell hB _).setCell hB _).setCell hB _
theorem z6D{w:World}{b:Nat}{s:St}{sl:Value}(h:SAt w b (stC s sl))(x:Bk):SAt (z5Q w b x) b (stC { s with b:=x } sl):=by
 have h0:=h.set 0 (.int .i64 x.f0);rw[j6p]at h0;have h1:=h0.set 1 (.int .i64 x.f1);rw[j5T]at h1;have h2:=h1.set 2 (.int .i64 x.f2);rw[j7O]at h2;have h3:=h2.set 3 (.int .i64 x.f3);rw[j6R]at h3;have h4:=h3.set 4 (.int .i64 x.bo);rw[j6P]at h4;have h5:=h4.set 5 (.int .i64 x.wa);rw[j6E]at h5;have h6:=h5.set 6 (.int .i64 x.bu);rw[j6Z]at h6;exact h6
theorem q9b(x:Vd){n:Int}(hn:n<=1125899906842624):shN x n<=1125899906842624/\(0<=n->0<=shN x n):=by
 have:=z4e n x.sh x.tok;unfold shN
 split
 ·omega
 ·split
  ·omega
  ·split <;> omega
theorem z4Q{s:St}{d v:Nat}(hg:z0h s=true)(hd:d<4)(hv:v<6):z0S s d v=0:=by
 unfold z0S z5J;rw[hg,z2N.2 (show (0:Int)<=v/\(v:Int)<6 by omega),z4I.2 (show (0:Int)<=d/\(d:Int)<4 by omega)]
 rfl
section
variable {f:Func} {w w1:World} {s:St} {ao:Option Addr} {n c:Nat}
end
theorem j1p(s:St)(ao:Option Addr)(sb so c:Nat)(d v n:Int)(w:World)(hW:z2n w ao sb so s.W)(r:St×Int)(h0:z0S s d v≠0)(hr:r=(s,z0S s d v)) :
  Calls prog 75 #[.agg (stC s (.slice ao s.W.length c)),.int .i64 d,.int .i64 v,.int .i64 n] w fun e w'=>e=.returned (.tuple #[.agg (stC r.1 (.slice ao s.W.length c)),.int .i64 r.2])/\Below w.heap.size w w':=by
 have SS:=(SAt.new w (stC s (.slice ao s.W.length c))).alloc (.cells Z63 43);have RR:=SAt.new2 w (.cells (stC s (.slice ao s.W.length c)) 43) Z63;have HB:Hid (Below w.heap.size w ((w.alloc (.cells (stC s (.slice ao s.W.length c)) 43)).alloc (.cells Z63 43))):=(znw w _).alloc (by simp) _
 have HW:=hide hW;have HR:=hide hr;clear hW hr
 go_enter func75,ntmps75
 go_upto_region 1 with fail
 change Code.wp prog _ _ _ ((w.alloc (.cells (stC s (.slice ao s.W.length c)) 43)).alloc (.cells Z63 43));generalize (w.alloc (.cells (stC s (.slice ao s.W.length c)) 43)).alloc (.cells Z63 43)=w0 at *
 go_upto_region 2 with (go_at_call 104;refine (z2r s ao sb so c w.heap.size d v _ SS (by exact HW.out.over HB.out)).mono ?_;rintro e w1 ⟨rfl,h1⟩)
 have HB1:Hid (Below w.heap.size w w1):=zbt HB.out h1;have S1:=SS.later h1 SS.lt;have R1:=RR.later h1 RR.lt;clear SS RR h1 HB
 go_upto_region 3 with fail
 apply wp_region_lit;refine wpList_load_mid rfl 43 _ rfl _ 0 rfl _ _ S1.range underlying43 rfl (by rw[z0t];rfl) ?_
 refine z1K rfl _ rfl ?_;refine wpList_store_mid rfl 43 _ _ rfl _ 0 (stC s (.slice ao s.W.length c)) rfl rfl (R1.there 0 _ (by rw[z0o,z0f];omega)) (by rw[z0t];rfl) (z0x _ _ _ _) ?_
 go_wp2;exact z0H results75 R1 rfl HB1.out (by omega) s _ _ r HR.out _ rfl rfl rfl
theorem q5R(s:St)(ao:Option Addr)(sb so c d v:Nat)(n:Int)(w:World)(hW:z2n w ao sb so s.W)(r:St×Int)(hg:z0h s=true)(hd:d<4)(hv:v<6)(B:Bk)(er:Int)
  (hBond:∀ w:World,Calls prog 107 #[.agg #[.int .i64 s.b.f0,.int .i64 s.b.f1,.int .i64 s.b.f2,.int .i64 s.b.f3,.int .i64 s.b.bo,.int .i64 s.b.wa,.int .i64 s.b.bu],.int .i64 (d:Int),.int .i64 n] w fun e w'=>e=.returned (.tuple #[.agg #[.int .i64 B.f0,.int .i64 B.f1,.int .i64 B.f2,.int .i64 B.f3,.int .i64 B.bo,.int .i64 B.wa,.int .i64 B.bu],.int .i64 er])/\Below w.heap.size w w')
  (h1:(s.V v).dead=true->r=(s,15)) (h2:(s.V v).dead=false->(decide (0<n) && inA n)=false->r=(s,2))
  (h3:(s.V v).dead=false->(decide (0<n) && inA n)=true->shE (s.V v) n≠0->r=(s,shE (s.V v) n))
  (h4:(s.V v).dead=false->(decide (0<n) && inA n)=true->shE (s.V v) n=0->er≠0->r=(s,er))
  (h5:(s.V v).dead=false->(decide (0<n) && inA n)=true->shE (s.V v) n=0->er=0->r=(q2N { s with b:=B } d v n (shN (s.V v) n),0)) :
  Calls prog 75 #[.agg (stC s (.slice ao s.W.length c)),.int .i64 (d:Int),.int .i64 (v:Int),.int .i64 n] w fun e w'=>e=.returned (.tuple #[.agg (stC r.1 (.slice ao s.W.length c)),.int .i64 r.2])/\Below w.heap.size w w':=by
 have SS:=(SAt.new w (stC s (.slice ao s.W.length c))).alloc (.cells Z63 43);have RR:=SAt.new2 w (.cells (stC s (.slice ao s.W.length c)) 43) Z63;have HB:Hid (Below w.heap.size w ((w.alloc (.cells (stC s (.slice ao s.W.length c)) 43)).alloc (.cells Z63 43))):=(znw w _).alloc (by simp) _
 have HW:=hide hW;have H1:=hide h1;have H2:=hide h2;have H3:=hide h3;have H4:=hide h4;have H5:=hide h5;obtain ⟨hvo,hps⟩:=z4o hg v hv;have hS:=z8q n;have hRf:=z4Q hg hd hv;have hd':(d:Int)<4:=by omega
 have hv':(v:Int)<6:=by omega
 have hd0:(0:Int)<=(d:Int):=by omega
 have hv0:(0:Int)<=(v:Int):=by omega
 have hSF:=fun w b o (hn:n<=1125899906842624)=>z8R b o (s.V v) n w hn hvo;have hRe:=fun w h=>z2r s ao sb so c w.heap.size d v w h;clear hW h1 h2 h3 h4 h5
 go_enter func75,ntmps75
 go_upto_region 1 with fail
 change Code.wp prog _ _ _ ((w.alloc (.cells (stC s (.slice ao s.W.length c)) 43)).alloc (.cells Z63 43));generalize (w.alloc (.cells (stC s (.slice ao s.W.length c)) 43)).alloc (.cells Z63 43)=w0 at *
 go_upto_region 2 with (go_at_call 104;refine (z2r s ao sb so c w.heap.size d v _ SS (by exact HW.out.over HB.out)).mono ?_;rintro e w1 ⟨rfl,h1⟩)
 have HB1:Hid (Below w.heap.size w w1):=zbt HB.out h1;have S1:=SS.later h1 SS.lt;have R1:=RR.later h1 RR.lt;obtain ⟨x0,x1,x2,x3,x4,x5,x6,x7,x8⟩:=z0p S1;obtain ⟨c0,c1,c2,c3,c4⟩:=S1.val v hv;have hz1:w.heap.size+1<w1.heap.size:=R1.lt;have HT:Hid ((decide (0<n) && inA n)=true->0<n/\n<=1125899906842624):=fun h=>by simp only[Bool.and_eq_true,decide_eq_true_eq,z0z]at h;omega
 generalize (decide (0<n) && inA n)=t at *;clear SS RR h1 HB x7 x8 hRe c2 c3;generalize hdd:(s.V v).dead=dd at *;clear hdd
 go_upto_region 15 with (first
  | (go_at_call 105;refine (hS _).mono ?_;rintro e w2 ⟨rfl,rfl⟩)
  | (go_at_call 106;refine (hSF _ _ _ (by exact (HT.out (by simpa using ‹(!t)=false›)).2) c0 c1).mono ?_;rintro e w2 ⟨rfl,h2⟩;have HB2:Hid (Below w.heap.size w w2):=HB1.out.trans (h2.mono (by omega));have S2:=S1.later h2 S1.lt;have R2:=R1.later h2 R1.lt;clear x0 x1 x2 x3 x4 x5 x6;obtain ⟨x0,x1,x2,x3,x4,x5,x6,x7,x8⟩:=z0p S2;have hz2:=R2.lt;clear h2 x7 x8)
  | (go_at_call 107;refine (hBond _).mono ?_;rintro e w3 ⟨rfl,h3⟩;have HB3:Hid (Below w.heap.size w w3):=HB2.out.trans (h3.mono (by omega));have S3:=S2.later h3 S2.lt;have R3:=R2.later h3 R2.lt;have hz3:w.heap.size+1<w3.heap.size:=R3.lt;have S4:=S3.alloc (.cells #[.int .i64 B.f0,.int .i64 B.f1,.int .i64 B.f2,.int .i64 B.f3,.int .i64 B.bo,.int .i64 B.wa,.int .i64 B.bu] 35);have R4:=R3.alloc (.cells #[.int .i64 B.f0,.int .i64 B.f1,.int .i64 B.f2,.int .i64 B.f3,.int .i64 B.bo,.int .i64 B.wa,.int .i64 B.bu] 35);have HB4:Hid (Below w.heap.size w (w3.alloc (.cells #[.int .i64 B.f0,.int .i64 B.f1,.int .i64 B.f2,.int .i64 B.f3,.int .i64 B.bo,.int .i64 B.wa,.int .i64 B.bu] 35))):=HB3.out.alloc (by omega) _;clear h3 x0 x1 x2 x3 x4 x5 x6 S3 R3)
  | ((fail_if_success (go_not_at_region 6));apply wp_region_lit;refine wpList_load_mid rfl 43 _ rfl _ 0 rfl _ _ S1.range underlying43 rfl (by rw[z0t];rfl) ?_;refine wpList_store_mid rfl 43 _ _ rfl _ 0 (stC s (.slice ao s.W.length c)) rfl rfl (R1.there 0 _ (by rw[z0o,z0f];omega)) (by rw[z0t];rfl) (z0x _ _ _ _) ?_)
  | ((fail_if_success (go_not_at_region 8));apply wp_region_lit;refine wpList_load_mid rfl 43 _ rfl _ 0 rfl _ _ S1.range underlying43 rfl (by rw[z0t];rfl) ?_;refine wpList_store_mid rfl 43 _ _ rfl _ 0 (stC s (.slice ao s.W.length c)) rfl rfl (R1.there 0 _ (by rw[z0o,z0f];omega)) (by rw[z0t];rfl) (z0x _ _ _ _) ?_)
  | ((fail_if_success (go_not_at_region 11));apply wp_region_lit;refine wpList_load_mid rfl 43 _ rfl _ 0 rfl _ _ S2.range underlying43 rfl (by rw[z0t];rfl) ?_;refine z1K rfl _ rfl ?_;refine wpList_store_mid rfl 43 _ _ rfl _ 0 (stC s (.slice ao s.W.length c)) rfl rfl (R2.there 0 _ (by rw[z0o,z0f];omega)) (by rw[z0t];rfl) (z0x _ _ _ _) ?_)
  | ((fail_if_success (go_not_at_region 14));apply wp_region_lit;refine wpList_load_mid rfl 43 _ rfl _ 0 rfl _ _ S4.range underlying43 rfl (by rw[z0t];rfl) ?_;refine z1K rfl _ rfl ?_;refine wpList_store_mid rfl 43 _ _ rfl _ 0 (stC s (.slice ao s.W.length c)) rfl rfl (R4.there 0 _ (by rw[z0o,z0f];omega)) (by rw[z0t];rfl) (z0x _ _ _ _) ?_))
 ·exact z0H results75 R1 rfl HB1.out (by omega) s _ _ r (H1.out ‹dd=true›) _ rfl rfl rfl
 ·exact z0H results75 R1 rfl HB1.out (by omega) s _ _ r (H2.out ‹dd=false› (by simpa using ‹(!t)=true›)) _ rfl rfl rfl
 ·exact z0H results75 R2 rfl HB2.out (by omega) s _ _ r (H3.out ‹dd=false› (by simpa using ‹(!t)=false›) (by simpa using ‹(shE (s.V v) n != 0)=true›)) _ rfl rfl rfl
 ·exact z0H results75 R4 rfl HB4.out (by omega) s _ _ r (H4.out ‹dd=false› (by simpa using ‹(!t)=false›) (by simpa using ‹(shE (s.V v) n != 0)=false›) (by simpa using ‹(er != 0)=true›)) _ rfl rfl rfl
 ·have HR:Hid (r=(q2N { s with b:=B } d v n (shN (s.V v) n),0)):=H5.out ‹dd=false› (by simpa using ‹(!t)=false›) (by simpa using ‹(shE (s.V v) n != 0)=false›) (by simpa using ‹(er != 0)=false›)
  have hn:=HT.out (by simpa using ‹(!t)=false›)
  obtain ⟨k1,k2,k3⟩:=z2e hvo;have k4:=z6j hps hd;rw[z0z]at k1 k2 k4;have k5:=q9b (s.V v) hn.2;obtain ⟨x0,x1,x2,x3,x4,x5,x6,x7,x8⟩:=z0p S4;have f0:=S4.free 0;have f1:=S4.free 1;have f2:=S4.free 2;have f3:=S4.free 3;have f4:=S4.free 4;have f5:=S4.free 5;have f6:=S4.free 6;have hne:w.heap.size≠w3.heap.size:=by omega
  clear H1 H2 H3 H4 H5 HT hBond hSF hS c0 c1 c4 x7 x8 S1 S2 R1 R2 HB1 HB2 hvo hps k3
  go_upto_region 16 with fail
  change Code.wp prog _ _ _ (z5Q (w3.alloc (.cells #[.int .i64 B.f0,.int .i64 B.f1,.int .i64 B.f2,.int .i64 B.f3,.int .i64 B.bo,.int .i64 B.wa,.int .i64 B.bu] 35)) w.heap.size B);have S5:=z6D S4 B;have R5:=R4.z5Q (b:=w.heap.size) (by omega) B
  have HB5:=hide (q5E HB4.out (Nat.le_refl _) B);generalize z5Q (w3.alloc (.cells #[.int .i64 B.f0,.int .i64 B.f1,.int .i64 B.f2,.int .i64 B.f3,.int .i64 B.bo,.int .i64 B.wa,.int .i64 B.bu] 35)) w.heap.size B=w5 at *;have hA:=q2U { s with b:=B } (.slice ao s.W.length c) w.heap.size d v n (shN (s.V v) n) w5 S5 hd hv (by simp only;omega) (by simp only;omega) (by simp only;omega)
  clear x0 x1 x2 x3 x4 x5 x6 f0 f1 f2 f3 f4 f5 f6 S4 R4 HB3 HB4 S5
  go_upto_region 17 with (go_at_call 108;refine hA.mono ?_;rintro e w6 ⟨rfl,S6,hbut⟩)
  have R6:=hbut.z1d (by omega) R5
  have HB6:=hide (HB5.out.trans (hbut.below (Nat.le_refl _)));apply wp_region_lit;refine wpList_load_mid rfl 43 _ rfl _ 0 rfl _ _ S6.range underlying43 rfl (by rw[z0t];rfl) ?_
  refine wpList_store_mid rfl 43 _ _ rfl _ 0 (stC (q2N { s with b:=B } d v n (shN (s.V v) n)) (.slice ao s.W.length c)) rfl rfl (R6.there 0 _ (by rw[z0o,z0f];omega)) (by rw[z0t];rfl) (z0x _ _ _ _) ?_
  go_wp2;exact z0H results75 R6 rfl HB6.out (by omega) _ _ _ r HR.out _ rfl rfl rfl
theorem q7I(s:St)(ao:Option Addr)(sb so c:Nat)(d v n:Int)(w:World)(hW:z2n w ao sb so s.W) :
  Calls prog 75 #[.agg (stC s (.slice ao s.W.length c)),.int .i64 d,.int .i64 v,.int .i64 n] w fun e w'=>e=.returned (.tuple #[.agg (stC (z0N s d v n).1 (.slice ao s.W.length c)),.int .i64 (z0N s d v n).2])/\Below w.heap.size w w':=by
 by_cases h:z0S s d v=0
 ·obtain ⟨hg,⟨v0,v1⟩,d0,d1⟩:=z9l h;obtain ⟨v,rfl⟩:=Int.eq_ofNat_of_zero_le v0;obtain ⟨d,rfl⟩:=Int.eq_ofNat_of_zero_le d0;exact q5R s ao sb so c d v n w hW _ hg (by omega) (by omega) _ _ (j0o s.b d n) (z8o h) (z7r h) (q0k h) (z8N h) (q3g h)
 ·exact j1p s ao sb so c d v n w hW _ h (z9R h)
end
section
open Go.RowKit
def j2Z(s:St)(d v:Nat)(wo n:Int)(B:Bk)(x:Wt):St:={ q2N { s with b:=B } d v (-wo) (-n) with W:=s.W ++ [x],next:=s.next+1 }
def z0O(s:St)(d v n:Int)(y:Wt):St×Int:=
 if z0S s d v=0 then
  if (decide (0<n) && inA n)=true/\0<=y.hei/\0<=y.due then
   if n<=s.S d.toNat v.toNat then
    if s.W.length<60/\s.next<1125899906842624 then
     if woE (s.V v.toNat) n=0 then
      if (z0U s.b (woN (s.V v.toNat) n)).2=0 then (j2Z s d.toNat v.toNat (woN (s.V v.toNat) n) n (z0U s.b (woN (s.V v.toNat) n)).1 { y with num:=s.next,d:=d,v:=v,amt:=woN (s.V v.toNat) n },0)
      else (s,(z0U s.b (woN (s.V v.toNat) n)).2)
     else (s,woE (s.V v.toNat) n)
    else (s,6)
   else (s,7)
  else (s,2)
 else (s,z0S s d v)
def z5w(B sb:Nat)(w:World)(r:St×Int)(e:Ending)(w':World):Prop:=∃ A ab ao C,e=.returned (.tuple #[.agg (stC r.1 (.slice A r.1.W.length C)),.int .i64 r.2])/\r.1.W.length<=C/\z2n w' A ab ao r.1.W/\(0<r.1.W.length->ab<w'.heap.size/\(ab=sb∨B<=ab))/\Below B w w'
theorem z1y{f:Func}{p q:Tmp}(hres:f.results=#[.cell p 43,.tmp q]){B g sb:Nat}{w wq:World}{zs:Array Value}(R:SAt wq g zs)(hz:zs.size=63)(H:Below B w wq)(hB:B<=g)(s':St)(A:Option Addr)(ab ao C:Nat)(er:Int)(r:St×Int)(hr:r=(s',er))(hC:s'.W.length<=C)(hW:z2n wq A ab ao s'.W)(hg:0<s'.W.length->ab≠g)(hq:0<s'.W.length->ab=sb∨B<=ab)(act:Act)
  (h8:act.tmps.getD p undef=.pointer (some ⟨g,0,none⟩)) (h9:act.tmps.getD q undef=.int .i64 er) (hd:act.defers=[]) :
  bodyPost prog f (fun e w'=>z5w B sb w r e w') Exit.ret act (wq.setCells g 0 (stC s' (.slice A s'.W.length C)).toList):=by
 subst hr;have R3:=R.z0G (ds:=stC s' (.slice A s'.W.length C)) (by rw[hz];rfl)
 have hW':=hW.sets hg (stC s' (.slice A s'.W.length C)).toList 0;exact bodyPost_ret (v:=.tuple #[.agg (stC s' (.slice A s'.W.length C)),.int .i64 er]) (z4G hres _ _ g _ _ h8 h9 R3 rfl) hd ⟨A,ab,ao,C,rfl,hC,hW',fun h=>⟨hW'.lt h,hq h⟩,z0b hB _ _ _ H⟩
def YAt(w:World)(y:Nat)(x:Wt):Prop:=w.heap[y]?=some (.cells #[.int .i64 x.num,.int .i64 x.d,.int .i64 x.v,.int .i64 x.amt,.int .i64 x.hei,.int .i64 x.due,.int .i64 x.h0,.int .i64 x.h1] 82)
theorem YAt.later{w w':World}{y B:Nat}{x:Wt}(h:YAt w y x)(hb:Below B w w')(hB:y<B):YAt w' y x:=(hb.block y hB).trans h
theorem YAt.lt{w:World}{y:Nat}{x:Wt}(h:YAt w y x):y<w.heap.size:=(Array.getElem?_eq_some_iff.1 h).1
theorem YAt.cells{w:World}{y:Nat}{x:Wt}(h:YAt w y x):w.cell? ⟨y,0,none⟩=some (.int .i64 x.num)/\w.cell? ⟨y,1,none⟩=some (.int .i64 x.d)/\w.cell? ⟨y,2,none⟩=some (.int .i64 x.v)/\w.cell? ⟨y,3,none⟩=some (.int .i64 x.amt)/\w.cell? ⟨y,4,none⟩=some (.int .i64 x.hei)/\w.cell? ⟨y,5,none⟩=some (.int .i64 x.due)/\w.cell? ⟨y,6,none⟩=some (.int .i64 x.h0)/\w.cell? ⟨y,7,none⟩=some (.int .i64 x.h1):=by
 unfold YAt at h
 simp[World.cell?,h]
theorem SAt.j9b(w:World)(o p:Obj)(cs:Array Value):SAt (((w.alloc o).alloc p).alloc (.cells cs 43)) (w.heap.size+2) cs:=by
 have h:=SAt.new2 (w.alloc o) p cs
 rwa [show (w.alloc o).heap.size+1=w.heap.size+2 by simp]at h
theorem YAt.new(w:World)(o p:Obj)(x:Wt):YAt (((w.alloc o).alloc (.cells #[.int .i64 x.num,.int .i64 x.d,.int .i64 x.v,.int .i64 x.amt,.int .i64 x.hei,.int .i64 x.due,.int .i64 x.h0,.int .i64 x.h1] 82)).alloc p) (w.heap.size+1) x:=by
 have h:YAt ((w.alloc o).alloc (.cells #[.int .i64 x.num,.int .i64 x.d,.int .i64 x.v,.int .i64 x.amt,.int .i64 x.hei,.int .i64 x.due,.int .i64 x.h0,.int .i64 x.h1] 82)) (w.alloc o).heap.size x:=heap_alloc_new _ _;rw[show (w.alloc o).heap.size=w.heap.size+1 by simp]at h
 exact h.later (znw _ _) h.lt
theorem j0v(s:St)(ao:Option Addr)(sb so c:Nat)(d v n:Int)(y:Wt)(w:World)(hc:s.W.length<=c)(hW:z2n w ao sb so s.W)(r:St×Int)(h0:z0S s d v≠0)(hr:r=(s,z0S s d v)) :
  Calls prog 78 #[.agg (stC s (.slice ao s.W.length c)),.int .i64 d,.int .i64 v,.int .i64 n,.agg #[.int .i64 y.num,.int .i64 y.d,.int .i64 y.v,.int .i64 y.amt,.int .i64 y.hei,.int .i64 y.due,.int .i64 y.h0,.int .i64 y.h1]] w fun e w'=>z5w w.heap.size sb w r e w':=by
 have SS:=((SAt.new w (stC s (.slice ao s.W.length c))).alloc (.cells #[.int .i64 y.num,.int .i64 y.d,.int .i64 y.v,.int .i64 y.amt,.int .i64 y.hei,.int .i64 y.due,.int .i64 y.h0,.int .i64 y.h1] 82)).alloc (.cells Z63 43);have RR:=SAt.j9b w (.cells (stC s (.slice ao s.W.length c)) 43) (.cells #[.int .i64 y.num,.int .i64 y.d,.int .i64 y.v,.int .i64 y.amt,.int .i64 y.hei,.int .i64 y.due,.int .i64 y.h0,.int .i64 y.h1] 82) Z63;have HB:Hid (Below w.heap.size w (((w.alloc (.cells (stC s (.slice ao s.W.length c)) 43)).alloc (.cells #[.int .i64 y.num,.int .i64 y.d,.int .i64 y.v,.int .i64 y.amt,.int .i64 y.hei,.int .i64 y.due,.int .i64 y.h0,.int .i64 y.h1] 82)).alloc (.cells Z63 43))):=((znw w _).alloc (by simp) _).alloc (by simp;omega) _
 have HW:=hide hW;have HR:=hide hr;have HC:=hide hc;clear hW hr hc
 go_enter func78,ntmps78
 go_upto_region 1 with fail
 change Code.wp prog _ _ _ (((w.alloc (.cells (stC s (.slice ao s.W.length c)) 43)).alloc (.cells #[.int .i64 y.num,.int .i64 y.d,.int .i64 y.v,.int .i64 y.amt,.int .i64 y.hei,.int .i64 y.due,.int .i64 y.h0,.int .i64 y.h1] 82)).alloc (.cells Z63 43));generalize ((w.alloc (.cells (stC s (.slice ao s.W.length c)) 43)).alloc (.cells #[.int .i64 y.num,.int .i64 y.d,.int .i64 y.v,.int .i64 y.amt,.int .i64 y.hei,.int .i64 y.due,.int .i64 y.h0,.int .i64 y.h1] 82)).alloc (.cells Z63 43)=w0 at *
 go_upto_region 2 with (go_at_call 104;refine (z2r s ao sb so c w.heap.size d v _ SS (by exact HW.out.over HB.out)).mono ?_;rintro e w1 ⟨rfl,h1⟩)
 have HB1:=hide (zbt HB.out h1);have S1:=SS.later h1 SS.lt;have R1:=RR.later h1 RR.lt;clear SS RR h1 HB
 go_upto_region 3 with fail
 apply wp_region_lit;refine wpList_load_mid rfl 43 _ rfl _ 0 rfl _ _ S1.range underlying43 rfl (by rw[z0t];rfl) ?_
 refine z1K rfl _ rfl ?_;refine wpList_store_mid rfl 43 _ _ rfl _ 0 (stC s (.slice ao s.W.length c)) rfl rfl (R1.there 0 _ (by rw[z0o,z0f];omega)) (by rw[z0t];rfl) (z0x _ _ _ _) ?_
 go_wp2;exact z1y results78 R1 rfl HB1.out (by omega) s ao sb so c _ r HR.out HC.out (HW.out.over HB1.out) (fun h=>by have:=HW.out.lt h;omega) (fun _=>.inl rfl) _ rfl rfl rfl
end
end Go.Proofs.YtmopekkhmhhcaaaGreat
