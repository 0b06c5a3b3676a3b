/- Parts of the proof. -/
import Derived.Test.YtmopekkhmhhcaaaGreatFL
import Derived.Test.YtmopekkhmhhcaaaGreatFK27
set_option maxRecDepth 100000
set_option maxHeartbeats 16000000
namespace Go.Proofs.YtmopekkhmhhcaaaGreat
open Go.Proofs.Tryz
namespace Pv
open Go.RowKit
structure Lk where
 on:Bool
 gone:Bool
 base:Int
 told:List (Int×Int)
 fresh:Bool
 done:List Int
 out:Ln.Line
 h0:Int
 h1:Int
 h2:Int
 h3:Int
structure Pr where
 h:Int
 t:Int
 s:St
 set:List (Int×Int)
 L:Nat->Lk
 ml:Int
 mn:Int
 q:List (Int×Pkt)
structure LkV where
 told:Value
 done:Value
 said:Value
 due:Value
structure PrV where
 ws:Value
 set:Value
 l:Nat->LkV
 q:Value
def lkL(x:Lk)(v:LkV):List Value:=[.bool x.on,.bool x.gone,.int .i64 x.base,v.told,.bool x.fresh,v.done,v.said,v.due,.int .i64 x.out.g,.bool x.out.cl,.int .i64 x.h0,.int .i64 x.h1,.int .i64 x.h2,.int .i64 x.h3]
def prC(p:Pr)(v:PrV):Array Value:=(([.int .i64 p.h,.int .i64 p.t]:List Value) ++ ((stC p.s v.ws).toList ++ (v.set :: (lkL (p.L 0) (v.l 0) ++ (lkL (p.L 1) (v.l 1) ++ [.int .i64 p.ml,.int .i64 p.mn,v.q]))))).toArray
theorem z0a(p:Pr)(v:PrV):(prC p v).size=97:=rfl
def akL(x:Int×Pkt)(y:Value×Value):List Value:=[.int .i64 x.1,.int .i64 x.2.k,.int .i64 x.2.i,.int .i64 x.2.v,.int .i64 x.2.n,y.1,y.2]
def quL:List (Int×Pkt)->List (Value×Value)->List Value
 | x :: q,y :: z=>akL x y ++ quL q z
 | _,_=>[]
def q4q(P:Nat->Prop)(w:World)(v:Value)(q:List (Int×Pkt)):Prop:=
 ∃ z:List (Value×Value),z.length=q.length/\Rep P w v 7 80 (quL q z)/\∀ (i:Nat) (x:Int×Pkt) (y:Value×Value),q[i]?=some x->z[i]?=some y->Rep P w y.1 2 16 (pwC x.2.S)/\Rep P w y.2 1 8 (inC x.2.D)
structure z6c(P:Nat->Prop)(w:World)(x:Lk)(v:LkV):Prop where
 told:Rep P w v.told 2 16 (pwC x.told)
 done:Rep P w v.done 1 8 (inC x.done)
 said:z0I P w v.said 1 16 (txC x.out.S)
 due:z0I P w v.due 1 8 (inC x.out.D)
structure PIn(P:Nat->Prop)(w:World)(p:Pr)(v:PrV):Prop where
 ws:Rep P w v.ws 8 64 (wsL p.s.W)
 set:Rep P w v.set 2 16 (pwC p.set)
 lk:∀ c,c<2->z6c P w (p.L c) (v.l c)
 q:q4q P w v.q p.q
section
variable {P P':Nat->Prop} {w w':World}
theorem q4q.mono{v:Value}{q:List (Int×Pkt)}(h:q4q P w v q)(hp:∀ b,b<w.heap.size->P b->P' b):q4q P' w v q:=by
 obtain⟨z,h1,h2,h3⟩:=h;exact⟨z,h1,h2.mono hp,fun i x y hx hy=>⟨(h3 i x y hx hy).1.mono hp,(h3 i x y hx hy).2.mono hp⟩⟩
theorem q4q.keep{v:Value}{q:List (Int×Pkt)}(h:q4q P w v q)(hk:∀ b,P b->b<w.heap.size->w'.heap[b]?=w.heap[b]?):q4q P w' v q:=by
 obtain⟨z,h1,h2,h3⟩:=h;exact⟨z,h1,h2.keep hk,fun i x y hx hy=>⟨(h3 i x y hx hy).1.keep hk,(h3 i x y hx hy).2.keep hk⟩⟩
theorem z6c.mono{x:Lk}{v:LkV}(h:z6c P w x v)(hp:∀ b,b<w.heap.size->P b->P' b):z6c P' w x v:=⟨h.told.mono hp,h.done.mono hp,h.said.mono hp,h.due.mono hp⟩
theorem z6c.keep{x:Lk}{v:LkV}(h:z6c P w x v)(hk:∀ b,P b->b<w.heap.size->w'.heap[b]?=w.heap[b]?):z6c P w' x v:=⟨h.told.keep hk,h.done.keep hk,h.said.keep hk,h.due.keep hk⟩
theorem PIn.mono{p:Pr}{v:PrV}(h:PIn P w p v)(hp:∀ b,b<w.heap.size->P b->P' b):PIn P' w p v:=⟨h.ws.mono hp,h.set.mono hp,fun c hc=>(h.lk c hc).mono hp,h.q.mono hp⟩
theorem PIn.keep{p:Pr}{v:PrV}(h:PIn P w p v)(hk:∀ b,P b->b<w.heap.size->w'.heap[b]?=w.heap[b]?):PIn P w' p v:=⟨h.ws.keep hk,h.set.keep hk,fun c hc=>(h.lk c hc).keep hk,h.q.keep hk⟩
theorem PIn.over{p:Pr}{v:PrV}(h:PIn P w p v)(hb:Below w.heap.size w w'):PIn P w' p v:=h.keep fun b _ hlt=>hb.block b hlt
end
end Pv
namespace Pv
open Go.RowKit
section
variable {P:Nat->Prop} {w w':World} {v:Value} {sz bts:Nat} {cs:List Value}
theorem Rep.q4n{W:List Wt}(h:Rep P w v 8 64 (wsL W)):∃ A C b o,v=.slice A W.length C/\z2A w A b o W/\(A=none->C=0)/\(0<W.length->P b):=by
 obtain⟨A,n,C,h1,h2,h3,h4,h5⟩:=h;rw[z1D]at h2;have e:n=W.length:=by omega
 subst e
 rcases Nat.eq_zero_or_pos W.length with h0 | h0
 ·refine⟨A,C,0,0,h1,⟨fun h=>by omega,h3,fun i x hx=>?_⟩,h4.1,fun h=>by omega⟩
  have:=(List.getElem?_eq_some_iff.1 hx).1;omega
 ·obtain⟨b,off,rfl,hp,_,hc⟩:=h5 h0;refine⟨_,C,b,off,h1,⟨fun _=>rfl,h3,fun i x hx=>?_⟩,h4.1,fun _=>hp⟩
  have k:∀ j,j<8->∀ u,(wtL x)[j]?=some u->w.cell? ⟨b,off+i * 8+j,none⟩=some u:=fun j hj u hu=>by
   rw[Nat.add_assoc];exact hc _ _ ((z4B W i x j hx hj).trans hu)
  exact⟨k 0 (by omega) _ rfl,k 1 (by omega) _ rfl,k 2 (by omega) _ rfl,k 3 (by omega) _ rfl,k 4 (by omega) _ rfl,k 5 (by omega) _ rfl,k 6 (by omega) _ rfl,k 7 (by omega) _ rfl⟩
end
end Pv
section
open Go.RowKit
theorem z5g{fn:Func}{p q:Tmp}(h:fn.results=#[.cell p 43,.tmp q])(tmps:Array Value)(w:World)(g:Nat)(cs:Array Value)(v:Value)
  (hp:tmps.getD p undef=.pointer (some ⟨g,0,none⟩)) (hq:tmps.getD q undef=v) (hg:SAt w g cs) (hsz:cs.size=63) :
  (results fn tmps).run prog w=.ok (.tuple #[.agg cs,v]) w:=by
 have hp':tmps[p]?.getD undef=.pointer (some ⟨g,0,none⟩):=by simpa using hp
 have hq':tmps[q]?.getD undef=v:=by simpa using hq
 simp[results,h,hp',hq',asAddr,run_loadVar_row w g 43 43 cs (0,0) _ hg underlying43 rfl (by rw[z0y,hsz])]
theorem z0M{f:Func}{p q:Tmp}(hres:f.results=#[.cell p 43,.tmp q]){B g:Nat}{w wq:World}{zs:Array Value}(R:SAt wq g zs)(hz:zs.size=63)(H:Below B w wq)(hB:B<=g)(s':St)(sl:Value)(er:Int)(r:St×Int)(hr:r=(s',er))(act:Act)
  (h8:act.tmps.getD p undef=.pointer (some ⟨g,0,none⟩)) (h9:act.tmps.getD q undef=.int .i64 er) (hd:act.defers=[]) :
  bodyPost prog f (fun e w'=>e=.returned (.tuple #[.agg (stC r.1 sl),.int .i64 r.2])/\Below B w w') Exit.ret act (wq.setCells g 0 (stC s' sl).toList):=by
 subst hr;have R3:=R.z0H (ds:=stC s' sl) (by rw[hz];rfl)
 exact bodyPost_ret (v:=.tuple #[.agg (stC s' sl),.int .i64 er]) (z5g hres _ _ g _ _ h8 h9 R3 rfl) hd ⟨rfl,z0b hB _ _ _ H⟩
theorem z1R{ops:Array Oper}{rest:List Oper}{o:Oper}{a:Act}{w:World}{Q:Exit->Act->World->Prop}(hg:o.guard=none)(x:Operand)(hop:o.op=Op.move x)(hK:wpList prog ops Q rest (a.put o.dst (a.eval x)) w) :
  wpList prog ops Q (o :: rest) a w:=by
 refine wpList_plain hg fun _ hK'=>?_;unfold Oper.wp
 simp[execOp,hop]
 exact hK' _ _ hK
theorem z0s:Z63.size=63:=rfl
theorem z2X{b k o:Nat}(hk:k≠b)(vs:List Value)(p:Nat)(w:World):(w.setCells b p vs).cell? ⟨k,o,none⟩=w.cell? ⟨k,o,none⟩:=World.cell?_of_block (w:=w) (z1k hk vs p w)
theorem z2A.sets{w:World}{ao:Option Addr}{b o g:Nat}{W:List Wt}(h:z2A w ao b o W)(hg:0<W.length->b≠g)(vs:List Value)(p:Nat):z2A (w.setCells g p vs) ao b o W:=by
 refine⟨h.adr,h.len,fun i x hx=>?_⟩;have hne:b≠g:=hg (by have:=(List.getElem?_eq_some_iff.1 hx).1;omega)
 obtain⟨h0,h1,h2,h3,h4,h5,h6,h7⟩:=h.cell i x hx;exact⟨(z2X hne _ _ _).trans h0,(z2X hne _ _ _).trans h1,(z2X hne _ _ _).trans h2,(z2X hne _ _ _).trans h3,(z2X hne _ _ _).trans h4,(z2X hne _ _ _).trans h5,(z2X hne _ _ _).trans h6,(z2X hne _ _ _).trans h7⟩
theorem z2A.but{w w':World}{ao:Option Addr}{b o g:Nat}{W:List Wt}(h:z2A w ao b o W)(hb:But g w w')(hg:0<W.length->b≠g):z2A w' ao b o W:=by
 refine⟨h.adr,h.len,fun i x hx=>?_⟩;have hne:b≠g:=hg (by have:=(List.getElem?_eq_some_iff.1 hx).1;omega)
 have k:∀ o,w'.cell? ⟨b,o,none⟩=w.cell? ⟨b,o,none⟩:=fun o=>World.cell?_of_block (w:=w) (hb.block b hne);obtain⟨h0,h1,h2,h3,h4,h5,h6,h7⟩:=h.cell i x hx;exact⟨(k _).trans h0,(k _).trans h1,(k _).trans h2,(k _).trans h3,(k _).trans h4,(k _).trans h5,(k _).trans h6,(k _).trans h7⟩
theorem z8U(a b c:Int)(w:World)(a1:a<=9223372036854775807)(b1:b<=9223372036854775807)(c1:c<=9223372036854775807) :
  Calls prog 148 #[.int .i64 a,.int .i64 b,.int .i64 c] w fun e w'=>e=.returned (.tuple #[.int .i64 (mdN a b c),.int .i64 (mdE a b c)])/\Below w.heap.size w w':=Ra.j3I a b c a1 b1 c1 w
theorem z4D(a b c:Int):0<=mdN a b c/\mdN a b c<=1125899906842624:=by
 unfold mdN
 split
 ·omega
 ·rename_i h;have h0:0<=a * b:=Int.mul_nonneg (by omega) (by omega)
  have h1:0<=a * b / c:=Int.ediv_nonneg h0 (by omega)
  split <;> omega
theorem j9c(x:Vd)(n:Int):shN x n=if x.sh=0 then n else if x.tok=0 then 0 else if mdE n x.sh x.tok=0/\inA (x.sh+mdN n x.sh x.tok)=true then mdN n x.sh x.tok else 0:=rfl
theorem j9d(x:Vd)(n:Int):shE x n=if x.sh=0 then 0 else if x.tok=0 then 8 else if mdE n x.sh x.tok=0/\inA (x.sh+mdN n x.sh x.tok)=true then if mdN n x.sh x.tok=0 then 8 else 0 else 6:=rfl
theorem j8r(x:Vd)(n:Int):woN x n=if mdE n x.tok x.sh=0 then mdN n x.tok x.sh else 0:=rfl
theorem j9G(x:Vd)(n:Int):woE x n=if mdE n x.tok x.sh=0 then if mdN n x.tok x.sh=0 then 8 else 0 else mdE n x.tok x.sh:=rfl
theorem z9Q(b o:Nat)(x:Vd)(n:Int)(w:World)(hn:n<=1125899906842624)(hx:vOk x=true)(h0:w.cell? ⟨b,o,none⟩=some (.int .i64 x.tok))(h1:w.cell? ⟨b,o+1,none⟩=some (.int .i64 x.sh)) :
  Calls prog 106 #[.pointer (some ⟨b,o,none⟩),.int .i64 n] w fun e w'=>e=.returned (.tuple #[.int .i64 (shN x n),.int .i64 (shE x n)])/\Below w.heap.size w w':=by
 obtain⟨k1,k2,k3⟩:=z2s hx;rw[z0D]at k1 k2 k3;have hM:=fun w=>z8U n x.sh x.tok w (by omega) (by omega) (by omega)
 have hI:=z5n (x.sh+mdN n x.sh x.tok);have HN:=hide (j9c x n);have HE:=hide (j9d x n);have hblt:b<w.heap.size:=World.block_lt_of_cell? w _ h0;clear hx;obtain⟨xt,xs,xl,xj,xd⟩:=x;simp only at *;have hb:=z4D n xs xt;generalize shN ⟨xt,xs,xl,xj,xd⟩ n=rN at *;generalize shE ⟨xt,xs,xl,xj,xd⟩ n=rE at *;generalize mdN n xs xt=m at *;generalize mdE n xs xt=er at *;generalize inA (xs+m)=t at *
 go_enter func106,ntmps106
 go_upto_region 5 with fail
 all_goals first
  | (go_ret2;refine⟨?_,Below.refl _ _⟩;have e1:=HN.out;have e2:=HE.out;simp_all;done)
  | skip
 go_region_held3 (fun wx=>wx.cell? ⟨b,o,none⟩=some (.int .i64 xt)/\wx.cell? ⟨b,o+1,none⟩=some (.int .i64 xs)) (first | go_keep | (refine⟨?_,?_⟩ <;> (rw[hbM.cell hblt];simp[*])))
  (first | (go_at_call 148;refine (hM _).mono ?_;rintro e w1⟨rfl,hbM⟩))
 rename_i hh;obtain⟨g0,g1⟩:=hh;have HB:Hid (Below w.heap.size w w1):=(Below.refl _ w).drew.trans hbM;clear hbM
 go_wp2_with (go_at_call 147;refine (hI _).mono ?_;rintro e w2⟨rfl,rfl⟩)
 all_goals (go_ret2;refine⟨?_,HB.out⟩;have e1:=HN.out;have e2:=HE.out;clear HN HE hM hI;simp_all)
theorem q1Z(b o:Nat)(x:Vd)(n:Int)(w:World)(hn:n<=1125899906842624)(hx:vOk x=true)(h0:w.cell? ⟨b,o,none⟩=some (.int .i64 x.tok))(h1:w.cell? ⟨b,o+1,none⟩=some (.int .i64 x.sh)) :
  Calls prog 109 #[.pointer (some ⟨b,o,none⟩),.int .i64 n] w fun e w'=>e=.returned (.tuple #[.int .i64 (woN x n),.int .i64 (woE x n)])/\Below w.heap.size w w':=by
 obtain⟨k1,k2,k3⟩:=z2s hx;rw[z0D]at k1 k2 k3;have hM:=fun w=>z8U n x.tok x.sh w (by omega) (by omega) (by omega)
 have HN:=hide (j8r x n);have HE:=hide (j9G x n);have hblt:b<w.heap.size:=World.block_lt_of_cell? w _ h0;clear hx;obtain⟨xt,xs,xl,xj,xd⟩:=x;simp only at *;generalize woN ⟨xt,xs,xl,xj,xd⟩ n=rN at *;generalize woE ⟨xt,xs,xl,xj,xd⟩ n=rE at *;generalize mdN n xt xs=m at *;generalize mdE n xt xs=er at *
 go_enter func109,ntmps109
 go_upto_region 1 with fail
 go_region_held3 (fun wx=>wx.cell? ⟨b,o,none⟩=some (.int .i64 xt)/\wx.cell? ⟨b,o+1,none⟩=some (.int .i64 xs)) (first | go_keep | (refine⟨?_,?_⟩ <;> (rw[hbM.cell hblt];simp[*])))
  (first | (go_at_call 148;refine (hM _).mono ?_;rintro e w1⟨rfl,hbM⟩))
 rename_i hh;have HB:Hid (Below w.heap.size w w1):=(Below.refl _ w).drew.trans hbM;clear hbM hh;go_wp2
 all_goals (go_ret2;refine⟨?_,HB.out⟩;have e1:=HN.out;have e2:=HE.out;clear HN HE hM;simp_all)
theorem q6B{w wq:World}(R:BAt wq (w.heap.size+1) 0 0 0 0 0 0 0)(H:Below w.heap.size w wq)(r0 r1 r2 r3 r4 r5 r6 er:Int)(act:Act)
  (h8:act.tmps.getD 4 undef=.pointer (some ⟨w.heap.size+1,0,none⟩)) (h9:act.tmps.getD 5 undef=.int .i64 er) (hd:act.defers=[]) :
  bodyPost prog f110 (fun e w'=>e=.returned (.tuple #[.agg #[.int .i64 r0,.int .i64 r1,.int .i64 r2,.int .i64 r3,.int .i64 r4,.int .i64 r5,.int .i64 r6],.int .i64 er])/\Below w.heap.size w w') Exit.ret act
   (z6Y wq (w.heap.size+1) r0 r1 r2 r3 r4 r5 r6):=by
 have HR:=R.z6Y r0 r1 r2 r3 r4 r5 r6;have HW:=z3i (b:=w.heap.size+1) H (by omega) r0 r1 r2 r3 r4 r5 r6
 generalize z6Y wq (w.heap.size+1) r0 r1 r2 r3 r4 r5 r6=w9 at *;obtain⟨u0,u1,u2,u3,u4,u5,u6⟩:=HR.cells;have h8':act.tmps[4]?.getD undef=.pointer (some ⟨w.heap.size+1,0,none⟩):=by simpa using h8
 have h9':act.tmps[5]?.getD undef=.int .i64 er:=by simpa using h9
 exact bodyPost_ret (v:=.tuple #[.agg #[.int .i64 r0,.int .i64 r1,.int .i64 r2,.int .i64 r3,.int .i64 r4,.int .i64 r5,.int .i64 r6],.int .i64 er]) (by simp[results,results110,go_sem,h8',h9',u0,u1,u2,u3,u4,u5,u6]) hd ⟨rfl,HW⟩
theorem q2Z(f0 f1 f2 f3 bo wa bu n r0 r1 r2 r3 r4 r5 r6 er:Int)(w:World)
  (hmv:∀ w:World,Calls prog 150 #[.agg #[.int .i64 f0,.int .i64 f1,.int .i64 f2,.int .i64 f3,.int .i64 bo,.int .i64 wa,.int .i64 bu],.func (.func 173) #[] #[],.func (.func 174) #[] #[],.int .i64 n] w
   fun e w'=>e=.returned (.tuple #[.agg #[.int .i64 r0,.int .i64 r1,.int .i64 r2,.int .i64 r3,.int .i64 r4,.int .i64 r5,.int .i64 r6],.int .i64 er])/\Below w.heap.size w w') :
  Calls prog 110 #[.agg #[.int .i64 f0,.int .i64 f1,.int .i64 f2,.int .i64 f3,.int .i64 bo,.int .i64 wa,.int .i64 bu],.int .i64 n] w
   fun e w'=>e=.returned (.tuple #[.agg #[.int .i64 r0,.int .i64 r1,.int .i64 r2,.int .i64 r3,.int .i64 r4,.int .i64 r5,.int .i64 r6],.int .i64 er])/\Below w.heap.size w w':=by
 go_enter func110,ntmps110
 go_wp2_with fail
 have R0:BAt ((w.alloc (.cells #[.int .i64 f0,.int .i64 f1,.int .i64 f2,.int .i64 f3,.int .i64 bo,.int .i64 wa,.int .i64 bu] 35)).alloc (.cells #[.int .i64 0,.int .i64 0,.int .i64 0,.int .i64 0,.int .i64 0,.int .i64 0,.int .i64 0] 35)) (w.heap.size+1) 0 0 0 0 0 0 0:=by
  have:=BAt.new (w.alloc (.cells #[.int .i64 f0,.int .i64 f1,.int .i64 f2,.int .i64 f3,.int .i64 bo,.int .i64 wa,.int .i64 bu] 35)) 0 0 0 0 0 0 0
  simpa using this
 have B0:=((BAt.new w f0 f1 f2 f3 bo wa bu).alloc (.cells #[.int .i64 0,.int .i64 0,.int .i64 0,.int .i64 0,.int .i64 0,.int .i64 0,.int .i64 0] 35));have HB:Hid (Below w.heap.size w ((w.alloc (.cells #[.int .i64 f0,.int .i64 f1,.int .i64 f2,.int .i64 f3,.int .i64 bo,.int .i64 wa,.int .i64 bu] 35)).alloc (.cells #[.int .i64 0,.int .i64 0,.int .i64 0,.int .i64 0,.int .i64 0,.int .i64 0,.int .i64 0] 35))):=((znw w _).alloc (by simp) _)
 generalize (w.alloc (.cells #[.int .i64 f0,.int .i64 f1,.int .i64 f2,.int .i64 f3,.int .i64 bo,.int .i64 wa,.int .i64 bu] 35)).alloc (.cells #[.int .i64 0,.int .i64 0,.int .i64 0,.int .i64 0,.int .i64 0,.int .i64 0,.int .i64 0] 35)=w0 at *;obtain⟨x0,x1,x2,x3,x4,x5,x6⟩:=B0.cells;have hz0:w.heap.size<w0.heap.size:=B0.lt;have hz1:w.heap.size+1<w0.heap.size:=R0.lt;clear B0
 go_region_with (first
  | (go_at_call 152;refine (z4Q _).mono ?_;rintro e w2⟨rfl,rfl⟩)
  | (go_at_call 153;refine (z4b _).mono ?_;rintro e w2⟨rfl,rfl⟩)
  | (go_at_call 150;refine (hmv _).mono ?_;rintro e w5⟨rfl,hb5⟩;have R5:BAt w5 (w.heap.size+1) 0 0 0 0 0 0 0:=(hb5.block _ (by simp;omega)).trans R0;have HB5:Hid (Below w.heap.size w w5):=HB.out.drew.trans (hb5.mono (by simp;omega));obtain⟨u0,u1,u2,u3,u4,u5,u6⟩:=R5.frees;obtain⟨v0,v1,v2,v3,v4,v5,v6⟩:=R5.cells;have HR5:Hid (BAt w5 (w.heap.size+1) 0 0 0 0 0 0 0):=R5;clear R5 hb5))
 all_goals
  go_wp2;exact q6B HR5.out HB5.out r0 r1 r2 r3 r4 r5 r6 er _ rfl rfl rfl
def z4y(s:St)(v:Nat)(j d:Bool):St:={ s with V:=z1P s.V v { s.V v with jail:=j,dead:=d } }
theorem j7w(s:St)(sl:Value)(v:Nat)(hv:v<6)(x:Bool):(stC s sl).setIfInBounds (7+v * 5+3) (.bool x)=stC (z4y s v x (s.V v).dead) sl:=j2v s sl v hv x
theorem y0G(s:St)(sl:Value)(v:Nat)(hv:v<6)(j d x:Bool):(stC (z4y s v j d) sl).setIfInBounds (7+v * 5+4) (.bool x)=stC (z4y s v j x) sl:=by
 rw[j1v _ sl v hv x];unfold z4y;simp only[q0L,z6z]
def q0x(s:St)(v:Int):St×Int:=
 if z6x s v=0 then if (s.V v.toNat).jail=true then (s,14) else (z4y s v.toNat true (s.V v.toNat).dead,0) else (s,z6x s v)
def z1S(s:St)(v:Int):St×Int:=
 if z6x s v=0 then if (s.V v.toNat).dead=true then (s,15) else if (s.V v.toNat).jail=true then (z4y s v.toNat false false,0) else (s,4) else (s,z6x s v)
def z8C(s:St)(v:Int):St×Int:=
 if z6x s v=0 then if (s.V v.toNat).dead=true then (s,15) else (z4y s v.toNat true true,0) else (s,z6x s v)
theorem z4C{s:St}{v:Int}(h:z6x s v=0):z0i s=true/\(0<=v/\v<6):=by
 unfold z6x at h
 repeat' split at h
 all_goals first | (simp_all [z3t];done) | omega
theorem z3Q{s:St}{v:Nat}(hg:z0i s=true)(hv:v<6):z6x s v=0:=by
 unfold z6x;rw[hg,z3t.2 (show (0:Int)<=v/\(v:Int)<6 by omega)]
 rfl
theorem j2w(s:St)(ao:Option Addr)(sb so c:Nat)(v:Int)(w:World)(hW:z2A w ao sb so s.W)(r:St×Int)(h0:z6x s v≠0)(hr:r=(s,z6x s v)) :
  Calls prog 177 #[.agg (stC s (.slice ao s.W.length c)),.int .i64 v] w fun e w'=>e=.returned (.tuple #[.agg (stC r.1 (.slice ao s.W.length c)),.int .i64 r.2])/\Below w.heap.size w w':=by
 have SS:=(SAt.new w (stC s (.slice ao s.W.length c))).alloc (.cells Z63 43);have RR:=SAt.new2 w (.cells (stC s (.slice ao s.W.length c)) 43) Z63;have HB:Hid (Below w.heap.size w ((w.alloc (.cells (stC s (.slice ao s.W.length c)) 43)).alloc (.cells Z63 43))):=(znw w _).alloc (by simp) _
 have HW:=hide hW;have HR:=hide hr;clear hW hr
 go_enter func177,ntmps177
 go_upto_region 1 with fail
 change Code.wp prog _ _ _ ((w.alloc (.cells (stC s (.slice ao s.W.length c)) 43)).alloc (.cells Z63 43));generalize (w.alloc (.cells (stC s (.slice ao s.W.length c)) 43)).alloc (.cells Z63 43)=w0 at *
 go_upto_region 2 with (go_at_call 79;refine (z1T s ao sb so c w.heap.size v _ SS (by exact HW.out.over HB.out)).mono ?_;rintro e w1⟨rfl,h1⟩)
 have HB1:=hide (zbt HB.out h1);have S1:=SS.later h1 SS.lt;have R1:=RR.later h1 RR.lt;clear SS RR h1 HB
 go_upto_region 3 with fail
 apply wp_region_lit;refine wpList_load_mid rfl 43 _ rfl _ 0 rfl _ _ S1.range underlying43 rfl (by rw[z0y];rfl) ?_
 refine z1R rfl _ rfl ?_;refine wpList_store_mid rfl 43 _ _ rfl _ 0 (stC s (.slice ao s.W.length c)) rfl rfl (R1.there 0 _ (by rw[z0s,z0g];omega)) (by rw[z0y];rfl) (z0C _ _ _ _) ?_
 go_wp2;exact z0M results177 R1 rfl HB1.out (by omega) s _ _ r HR.out _ rfl rfl rfl
theorem q7U(s:St)(ao:Option Addr)(sb so c v:Nat)(w:World)(hW:z2A w ao sb so s.W)(r:St×Int)(hg:z0i s=true)(hv:v<6)(h1:(s.V v).jail=true->r=(s,14))(h2:(s.V v).jail=false->r=((z4y s v true (s.V v).dead),0)) :
  Calls prog 177 #[.agg (stC s (.slice ao s.W.length c)),.int .i64 (v:Int)] w fun e w'=>e=.returned (.tuple #[.agg (stC r.1 (.slice ao s.W.length c)),.int .i64 r.2])/\Below w.heap.size w w':=by
 have SS:=(SAt.new w (stC s (.slice ao s.W.length c))).alloc (.cells Z63 43);have RR:=SAt.new2 w (.cells (stC s (.slice ao s.W.length c)) 43) Z63;have HB:Hid (Below w.heap.size w ((w.alloc (.cells (stC s (.slice ao s.W.length c)) 43)).alloc (.cells Z63 43))):=(znw w _).alloc (by simp) _
 have HW:=hide hW;have Hh1:=hide h1;have Hh2:=hide h2;have hRf:=z3Q hg hv;have hv':(v:Int)<6:=by omega
 have hv0:(0:Int)<=(v:Int):=by omega
 clear hW h1 h2
 go_enter func177,ntmps177
 go_upto_region 1 with fail
 change Code.wp prog _ _ _ ((w.alloc (.cells (stC s (.slice ao s.W.length c)) 43)).alloc (.cells Z63 43));generalize (w.alloc (.cells (stC s (.slice ao s.W.length c)) 43)).alloc (.cells Z63 43)=w0 at *
 go_upto_region 2 with (go_at_call 79;refine (z1T s ao sb so c w.heap.size v _ SS (by exact HW.out.over HB.out)).mono ?_;rintro e w1⟨rfl,h1⟩)
 have HB1:=hide (zbt HB.out h1);have S1:=SS.later h1 SS.lt;have R1:=RR.later h1 RR.lt;clear SS RR h1 HB;obtain⟨c0,c1,c2,c3,c4⟩:=S1.val v hv;have hz1:w.heap.size+1<w1.heap.size:=R1.lt;clear c0 c1 c2
 go_upto_region 7 with (first | ((fail_if_success (go_not_at_region 6));apply wp_region_lit;refine wpList_load_mid rfl 43 _ rfl _ 0 rfl _ _ S1.range underlying43 rfl (by rw[z0y];rfl) ?_;refine wpList_store_mid rfl 43 _ _ rfl _ 0 (stC s (.slice ao s.W.length c)) rfl rfl (R1.there 0 _ (by rw[z0s,z0g];omega)) (by rw[z0y];rfl) (z0C _ _ _ _) ?_))
 ·exact z0M results177 R1 rfl HB1.out (by omega) s _ _ r (Hh1.out ‹(s.V v).jail=true›) _ rfl rfl rfl
 ·have HR:=hide (Hh2.out ‹(s.V v).jail=false›);have f0:=S1.free (7+v * 5+3);have S2:=S1.set (7+v * 5+3) (.bool true);rw[j7w _ _ v hv]at S2;have RZ:SAt (w1.setCell ⟨w.heap.size,7+v * 5+3,none⟩ (.bool true)) (w.heap.size+1) Z63:=(R1.other (by omega) (.bool true):SAt _ _ _)
  have HZ:=hide (HB1.out.setCell (p:=⟨w.heap.size,7+v * 5+3,none⟩) (Nat.le_refl _) (.bool true));clear S1 R1 HB1
  go_upto_region 8 with fail
  generalize (w1.setCell ⟨w.heap.size,7+v * 5+3,none⟩ (.bool true))=w9 at *;apply wp_region_lit;refine wpList_load_mid rfl 43 _ rfl _ 0 rfl _ _ S2.range underlying43 rfl (by rw[z0y];rfl) ?_
  refine wpList_store_mid rfl 43 _ _ rfl _ 0 (stC (z4y s v true (s.V v).dead) (.slice ao s.W.length c)) rfl rfl (RZ.there 0 _ (by rw[z0s,z0g];omega)) (by rw[z0y];rfl) (z0C _ _ _ _) ?_
  go_wp2;exact z0M results177 RZ rfl HZ.out (by omega) (z4y s v true (s.V v).dead) (.slice ao s.W.length c) 0 r HR.out _ rfl rfl rfl
theorem q9O(s:St)(ao:Option Addr)(sb so c:Nat)(v:Int)(w:World)(hW:z2A w ao sb so s.W) :
  Calls prog 177 #[.agg (stC s (.slice ao s.W.length c)),.int .i64 v] w fun e w'=>e=.returned (.tuple #[.agg (stC (q0x s v).1 (.slice ao s.W.length c)),.int .i64 (q0x s v).2])/\Below w.heap.size w w':=by
 by_cases h:z6x s v=0
 ·obtain⟨hg,v0,v1⟩:=z4C h;obtain⟨v,rfl⟩:=Int.eq_ofNat_of_zero_le v0;exact q7U s ao sb so c v w hW _ hg (by omega) (fun h1=>by rw[q0x,if_pos h];exact if_pos h1) (fun h1=>by rw[q0x,if_pos h];exact if_neg (by simp[h1]))
 ·exact j2w s ao sb so c v w hW _ h (by unfold q0x;exact if_neg h)
theorem q4S(s:St)(ao:Option Addr)(sb so c:Nat)(v:Int)(w:World)(hW:z2A w ao sb so s.W)(r:St×Int)(h0:z6x s v≠0)(hr:r=(s,z6x s v)) :
  Calls prog 64 #[.agg (stC s (.slice ao s.W.length c)),.int .i64 v] w fun e w'=>e=.returned (.tuple #[.agg (stC r.1 (.slice ao s.W.length c)),.int .i64 r.2])/\Below w.heap.size w w':=by
 have SS:=(SAt.new w (stC s (.slice ao s.W.length c))).alloc (.cells Z63 43);have RR:=SAt.new2 w (.cells (stC s (.slice ao s.W.length c)) 43) Z63;have HB:Hid (Below w.heap.size w ((w.alloc (.cells (stC s (.slice ao s.W.length c)) 43)).alloc (.cells Z63 43))):=(znw w _).alloc (by simp) _
 have HW:=hide hW;have HR:=hide hr;clear hW hr
 go_enter func64,ntmps64
 go_upto_region 1 with fail
 change Code.wp prog _ _ _ ((w.alloc (.cells (stC s (.slice ao s.W.length c)) 43)).alloc (.cells Z63 43));generalize (w.alloc (.cells (stC s (.slice ao s.W.length c)) 43)).alloc (.cells Z63 43)=w0 at *
 go_upto_region 2 with (go_at_call 79;refine (z1T s ao sb so c w.heap.size v _ SS (by exact HW.out.over HB.out)).mono ?_;rintro e w1⟨rfl,h1⟩)
 have HB1:=hide (zbt HB.out h1);have S1:=SS.later h1 SS.lt;have R1:=RR.later h1 RR.lt;clear SS RR h1 HB
 go_upto_region 3 with fail
 apply wp_region_lit;refine wpList_load_mid rfl 43 _ rfl _ 0 rfl _ _ S1.range underlying43 rfl (by rw[z0y];rfl) ?_
 refine z1R rfl _ rfl ?_;refine wpList_store_mid rfl 43 _ _ rfl _ 0 (stC s (.slice ao s.W.length c)) rfl rfl (R1.there 0 _ (by rw[z0s,z0g];omega)) (by rw[z0y];rfl) (z0C _ _ _ _) ?_
 go_wp2;exact z0M results64 R1 rfl HB1.out (by omega) s _ _ r HR.out _ rfl rfl rfl
theorem q3h(s:St)(ao:Option Addr)(sb so c v:Nat)(w:World)(hW:z2A w ao sb so s.W)(r:St×Int)(hg:z0i s=true)(hv:v<6)(h1:(s.V v).dead=true->r=(s,15))(h2:(s.V v).dead=false->(s.V v).jail=false->r=(s,4))(h3:(s.V v).dead=false->(s.V v).jail=true->r=((z4y s v false false),0)) :
  Calls prog 64 #[.agg (stC s (.slice ao s.W.length c)),.int .i64 (v:Int)] w fun e w'=>e=.returned (.tuple #[.agg (stC r.1 (.slice ao s.W.length c)),.int .i64 r.2])/\Below w.heap.size w w':=by
 have SS:=(SAt.new w (stC s (.slice ao s.W.length c))).alloc (.cells Z63 43);have RR:=SAt.new2 w (.cells (stC s (.slice ao s.W.length c)) 43) Z63;have HB:Hid (Below w.heap.size w ((w.alloc (.cells (stC s (.slice ao s.W.length c)) 43)).alloc (.cells Z63 43))):=(znw w _).alloc (by simp) _
 have HW:=hide hW;have Hh1:=hide h1;have Hh2:=hide h2;have Hh3:=hide h3;have hRf:=z3Q hg hv;have hv':(v:Int)<6:=by omega
 have hv0:(0:Int)<=(v:Int):=by omega
 clear hW h1 h2 h3
 go_enter func64,ntmps64
 go_upto_region 1 with fail
 change Code.wp prog _ _ _ ((w.alloc (.cells (stC s (.slice ao s.W.length c)) 43)).alloc (.cells Z63 43));generalize (w.alloc (.cells (stC s (.slice ao s.W.length c)) 43)).alloc (.cells Z63 43)=w0 at *
 go_upto_region 2 with (go_at_call 79;refine (z1T s ao sb so c w.heap.size v _ SS (by exact HW.out.over HB.out)).mono ?_;rintro e w1⟨rfl,h1⟩)
 have HB1:=hide (zbt HB.out h1);have S1:=SS.later h1 SS.lt;have R1:=RR.later h1 RR.lt;clear SS RR h1 HB;obtain⟨c0,c1,c2,c3,c4⟩:=S1.val v hv;have hz1:w.heap.size+1<w1.heap.size:=R1.lt;clear c0 c1 c2
 go_upto_region 9 with (first | ((fail_if_success (go_not_at_region 6));apply wp_region_lit;refine wpList_load_mid rfl 43 _ rfl _ 0 rfl _ _ S1.range underlying43 rfl (by rw[z0y];rfl) ?_;refine wpList_store_mid rfl 43 _ _ rfl _ 0 (stC s (.slice ao s.W.length c)) rfl rfl (R1.there 0 _ (by rw[z0s,z0g];omega)) (by rw[z0y];rfl) (z0C _ _ _ _) ?_) | ((fail_if_success (go_not_at_region 8));apply wp_region_lit;refine wpList_load_mid rfl 43 _ rfl _ 0 rfl _ _ S1.range underlying43 rfl (by rw[z0y];rfl) ?_;refine wpList_store_mid rfl 43 _ _ rfl _ 0 (stC s (.slice ao s.W.length c)) rfl rfl (R1.there 0 _ (by rw[z0s,z0g];omega)) (by rw[z0y];rfl) (z0C _ _ _ _) ?_))
 ·exact z0M results64 R1 rfl HB1.out (by omega) s _ _ r (Hh1.out ‹(s.V v).dead=true›) _ rfl rfl rfl
 ·exact z0M results64 R1 rfl HB1.out (by omega) s _ _ r (Hh2.out ‹(s.V v).dead=false› (by simpa using ‹(!(s.V v).jail)=true›)) _ rfl rfl rfl
 ·have HR:=hide (Hh3.out ‹(s.V v).dead=false› (by simpa using ‹(!(s.V v).jail)=false›))
  have f0:=S1.free (7+v * 5+3);have S2:=S1.set (7+v * 5+3) (.bool false);rw[j7w _ _ v hv,‹(s.V v).dead=false›]at S2;have RZ:SAt (w1.setCell ⟨w.heap.size,7+v * 5+3,none⟩ (.bool false)) (w.heap.size+1) Z63:=(R1.other (by omega) (.bool false):SAt _ _ _)
  have HZ:=hide (HB1.out.setCell (p:=⟨w.heap.size,7+v * 5+3,none⟩) (Nat.le_refl _) (.bool false));clear S1 R1 HB1
  go_upto_region 10 with fail
  generalize (w1.setCell ⟨w.heap.size,7+v * 5+3,none⟩ (.bool false))=w9 at *;apply wp_region_lit;refine wpList_load_mid rfl 43 _ rfl _ 0 rfl _ _ S2.range underlying43 rfl (by rw[z0y];rfl) ?_
  refine wpList_store_mid rfl 43 _ _ rfl _ 0 (stC (z4y s v false false) (.slice ao s.W.length c)) rfl rfl (RZ.there 0 _ (by rw[z0s,z0g];omega)) (by rw[z0y];rfl) (z0C _ _ _ _) ?_
  go_wp2;exact z0M results64 RZ rfl HZ.out (by omega) (z4y s v false false) (.slice ao s.W.length c) 0 r HR.out _ rfl rfl rfl
theorem q2J(s:St)(ao:Option Addr)(sb so c:Nat)(v:Int)(w:World)(hW:z2A w ao sb so s.W) :
  Calls prog 64 #[.agg (stC s (.slice ao s.W.length c)),.int .i64 v] w fun e w'=>e=.returned (.tuple #[.agg (stC (z1S s v).1 (.slice ao s.W.length c)),.int .i64 (z1S s v).2])/\Below w.heap.size w w':=by
 by_cases h:z6x s v=0
 ·obtain⟨hg,v0,v1⟩:=z4C h;obtain⟨v,rfl⟩:=Int.eq_ofNat_of_zero_le v0;exact q3h s ao sb so c v w hW _ hg (by omega) (fun h1=>by rw[z1S,if_pos h];exact if_pos h1) (fun h1 h2=>by rw[z1S,if_pos h,if_neg (by simp[h1])];exact if_neg (by simp[h2])) (fun h1 h2=>by rw[z1S,if_pos h,if_neg (by simp[h1])];exact if_pos h2)
 ·exact q4S s ao sb so c v w hW _ h (by unfold z1S;exact if_neg h)
theorem j2Q(s:St)(ao:Option Addr)(sb so c:Nat)(v:Int)(w:World)(hW:z2A w ao sb so s.W)(r:St×Int)(h0:z6x s v≠0)(hr:r=(s,z6x s v)) :
  Calls prog 113 #[.agg (stC s (.slice ao s.W.length c)),.int .i64 v] w fun e w'=>e=.returned (.tuple #[.agg (stC r.1 (.slice ao s.W.length c)),.int .i64 r.2])/\Below w.heap.size w w':=by
 have SS:=(SAt.new w (stC s (.slice ao s.W.length c))).alloc (.cells Z63 43);have RR:=SAt.new2 w (.cells (stC s (.slice ao s.W.length c)) 43) Z63;have HB:Hid (Below w.heap.size w ((w.alloc (.cells (stC s (.slice ao s.W.length c)) 43)).alloc (.cells Z63 43))):=(znw w _).alloc (by simp) _
 have HW:=hide hW;have HR:=hide hr;clear hW hr
 go_enter func113,ntmps113
 go_upto_region 1 with fail
 change Code.wp prog _ _ _ ((w.alloc (.cells (stC s (.slice ao s.W.length c)) 43)).alloc (.cells Z63 43));generalize (w.alloc (.cells (stC s (.slice ao s.W.length c)) 43)).alloc (.cells Z63 43)=w0 at *
 go_upto_region 2 with (go_at_call 79;refine (z1T s ao sb so c w.heap.size v _ SS (by exact HW.out.over HB.out)).mono ?_;rintro e w1⟨rfl,h1⟩)
 have HB1:=hide (zbt HB.out h1);have S1:=SS.later h1 SS.lt;have R1:=RR.later h1 RR.lt;clear SS RR h1 HB
 go_upto_region 3 with fail
 apply wp_region_lit;refine wpList_load_mid rfl 43 _ rfl _ 0 rfl _ _ S1.range underlying43 rfl (by rw[z0y];rfl) ?_
 refine z1R rfl _ rfl ?_;refine wpList_store_mid rfl 43 _ _ rfl _ 0 (stC s (.slice ao s.W.length c)) rfl rfl (R1.there 0 _ (by rw[z0s,z0g];omega)) (by rw[z0y];rfl) (z0C _ _ _ _) ?_
 go_wp2;exact z0M results113 R1 rfl HB1.out (by omega) s _ _ r HR.out _ rfl rfl rfl
theorem q7M(s:St)(ao:Option Addr)(sb so c v:Nat)(w:World)(hW:z2A w ao sb so s.W)(r:St×Int)(hg:z0i s=true)(hv:v<6)(h1:(s.V v).dead=true->r=(s,15))(h2:(s.V v).dead=false->r=((z4y s v true true),0)) :
  Calls prog 113 #[.agg (stC s (.slice ao s.W.length c)),.int .i64 (v:Int)] w fun e w'=>e=.returned (.tuple #[.agg (stC r.1 (.slice ao s.W.length c)),.int .i64 r.2])/\Below w.heap.size w w':=by
 have SS:=(SAt.new w (stC s (.slice ao s.W.length c))).alloc (.cells Z63 43);have RR:=SAt.new2 w (.cells (stC s (.slice ao s.W.length c)) 43) Z63;have HB:Hid (Below w.heap.size w ((w.alloc (.cells (stC s (.slice ao s.W.length c)) 43)).alloc (.cells Z63 43))):=(znw w _).alloc (by simp) _
 have HW:=hide hW;have Hh1:=hide h1;have Hh2:=hide h2;have hRf:=z3Q hg hv;have hv':(v:Int)<6:=by omega
 have hv0:(0:Int)<=(v:Int):=by omega
 clear hW h1 h2
 go_enter func113,ntmps113
 go_upto_region 1 with fail
 change Code.wp prog _ _ _ ((w.alloc (.cells (stC s (.slice ao s.W.length c)) 43)).alloc (.cells Z63 43));generalize (w.alloc (.cells (stC s (.slice ao s.W.length c)) 43)).alloc (.cells Z63 43)=w0 at *
 go_upto_region 2 with (go_at_call 79;refine (z1T s ao sb so c w.heap.size v _ SS (by exact HW.out.over HB.out)).mono ?_;rintro e w1⟨rfl,h1⟩)
 have HB1:=hide (zbt HB.out h1);have S1:=SS.later h1 SS.lt;have R1:=RR.later h1 RR.lt;clear SS RR h1 HB;obtain⟨c0,c1,c2,c3,c4⟩:=S1.val v hv;have hz1:w.heap.size+1<w1.heap.size:=R1.lt;clear c0 c1 c2
 go_upto_region 7 with (first | ((fail_if_success (go_not_at_region 6));apply wp_region_lit;refine wpList_load_mid rfl 43 _ rfl _ 0 rfl _ _ S1.range underlying43 rfl (by rw[z0y];rfl) ?_;refine wpList_store_mid rfl 43 _ _ rfl _ 0 (stC s (.slice ao s.W.length c)) rfl rfl (R1.there 0 _ (by rw[z0s,z0g];omega)) (by rw[z0y];rfl) (z0C _ _ _ _) ?_))
 ·exact z0M results113 R1 rfl HB1.out (by omega) s _ _ r (Hh1.out ‹(s.V v).dead=true›) _ rfl rfl rfl
 ·have HR:=hide (Hh2.out ‹(s.V v).dead=false›);have f0:=S1.free (7+v * 5+3);have f1:=S1.free (7+v * 5+4);have S2:=S1.set (7+v * 5+3) (.bool true);rw[j7w _ _ v hv]at S2;have S3:=S2.set (7+v * 5+4) (.bool true);rw[y0G _ _ v hv]at S3;have RZ:SAt ((w1.setCell ⟨w.heap.size,7+v * 5+3,none⟩ (.bool true)).setCell ⟨w.heap.size,7+v * 5+4,none⟩ (.bool true)) (w.heap.size+1) Z63:=((R1.other (by omega) (.bool true):SAt _ _ _).other (by omega) (.bool true):SAt _ _ _)
  have HZ:=hide ((HB1.out.setCell (p:=⟨w.heap.size,7+v * 5+3,none⟩) (Nat.le_refl _) (.bool true)).setCell (p:=⟨w.heap.size,7+v * 5+4,none⟩) (Nat.le_refl _) (.bool true));clear S1 R1 HB1
  go_upto_region 8 with fail
  generalize ((w1.setCell ⟨w.heap.size,7+v * 5+3,none⟩ (.bool true)).setCell ⟨w.heap.size,7+v * 5+4,none⟩ (.bool true))=w9 at *;apply wp_region_lit;refine wpList_load_mid rfl 43 _ rfl _ 0 rfl _ _ S3.range underlying43 rfl (by rw[z0y];rfl) ?_
  refine wpList_store_mid rfl 43 _ _ rfl _ 0 (stC (z4y s v true true) (.slice ao s.W.length c)) rfl rfl (RZ.there 0 _ (by rw[z0s,z0g];omega)) (by rw[z0y];rfl) (z0C _ _ _ _) ?_
  go_wp2;exact z0M results113 RZ rfl HZ.out (by omega) (z4y s v true true) (.slice ao s.W.length c) 0 r HR.out _ rfl rfl rfl
theorem q7n(s:St)(ao:Option Addr)(sb so c:Nat)(v:Int)(w:World)(hW:z2A w ao sb so s.W) :
  Calls prog 113 #[.agg (stC s (.slice ao s.W.length c)),.int .i64 v] w fun e w'=>e=.returned (.tuple #[.agg (stC (z8C s v).1 (.slice ao s.W.length c)),.int .i64 (z8C s v).2])/\Below w.heap.size w w':=by
 by_cases h:z6x s v=0
 ·obtain⟨hg,v0,v1⟩:=z4C h;obtain⟨v,rfl⟩:=Int.eq_ofNat_of_zero_le v0;exact q7M s ao sb so c v w hW _ hg (by omega) (fun h1=>by rw[z8C,if_pos h];exact if_pos h1) (fun h1=>by rw[z8C,if_pos h];exact if_neg (by simp[h1]))
 ·exact j2Q s ao sb so c v w hW _ h (by unfold z8C;exact if_neg h)
end
end Go.Proofs.YtmopekkhmhhcaaaGreat
