/- Parts of the proof. -/
import Derived.Test.YtjghbciepinofaaGreatPL
import Derived.Test.YtjghbciepinofaaGreatPK15
import Derived.Test.YtjghbciepinofaaGreatPK20
import Derived.Test.YtjghbciepinofaaGreatPK36
import Derived.OrdersHeld
import Derived.RegionTactic
set_option maxRecDepth 100000
set_option maxHeartbeats 16000000
namespace Go.Proofs.YtjghbciepinofaaGreat
open Go.Proofs.Tryz
open Value renaming int->J,slice->J1,pointer->J2,bool->J3,agg->J4
open IntKind renaming i64->I
open Obj renaming cells->J5
namespace Pv
open Go.RowKit
def isT(n:Int):Bool:=decide (0<=n) && decide (n<=1099511627776)
theorem Rep.clip{P:Nat->Prop}{w:World}{A:Option Addr}{n C sz bts:Nat}{cs:List Value}(h:Rep P w (J1 A n C) sz bts cs):Rep P w (J1 A n n) sz bts cs:=by
 obtain⟨A',c,C',h1,h2,h3,a,b⟩:=h;cases h1;refine⟨A,n,n,rfl,h2,h3,⟨fun e=>?_,Nat.le_refl _⟩,b⟩;have:=a.1 e;omega
end Pv
namespace Ln
open Go.RowKit
theorem own_ne{w:World}{b e a z n k:Nat}{v:Value}{d:List Value}{cs:Array Value}{f:Nat×Nat}(h:w.ownsRow b e z v n d)(c:w.heap[k]?=some (J5 cs a f))(i:e≠a):some k≠v.ownBlock:=by
 rcases h.2 with⟨rfl,_⟩ | ⟨g,cap,cur,rfl,hb,hg,rest⟩
 ·simp[Value.ownBlock]
 ·intro h2;have j:k=g:=by simpa [Value.ownBlock] using h2
  subst j;rw[hg]at c;cases c;exact i rfl
theorem z5B{w:World}{b e c z n i j l:Nat}{v d:Value}{m a:List Value}(h:w.ownsRow b e z v n m)(o:w.ownsRow i c j d l a)(p:e≠c):∀ k,d.ownBlock=some k->some k≠v.ownBlock:=by
 intro k f
 rcases o.2 with⟨rfl,_⟩ | ⟨g,cap,cur,rfl,hb,hg,rest⟩
 ·simp[Value.ownBlock]at f
 ·obtain rfl:g=k:=by simpa [Value.ownBlock] using f
  exact own_ne h hg p
structure Mid(w wq:World)(b8:Nat)(v0 v1:Value)(g:Int)(cl:Bool)(S:List ByteArray)(A1:Option Addr)(C1:Nat)(D:List Int)(A2:Option Addr)(C2:Nat):Prop where
 F8:FAt wq b8 v0 v1 (J I g) (J3 cl)
 F2:FAt wq (w.heap.size+1) (J1 none 0 0) (J1 none 0 0) (J I 0) (J3 false)
 oS:q9x (w.heap.size+2) wq A1 C1 S
 oD:q8S (w.heap.size+2) wq A2 C2 D
 below:Bl w wq
 hb8:w.heap.size+2<=b8
section
variable {w wq:World} {b8:Nat} {v0 v1:Value} {g:Int} {cl:Bool} {S:List ByteArray} {A1:Option Addr} {C1:Nat} {D:List Int} {A2:Option Addr} {C2:Nat}
theorem Mid.alloc(h:Mid w wq b8 v0 v1 g cl S A1 C1 D A2 C2)(o:Obj):Mid w (wq.alloc o) b8 v0 v1 g cl S A1 C1 D A2 C2:=
 ⟨h.F8.alloc o,h.F2.alloc o,World.ownsRow.alloc h.oS o,World.ownsRow.alloc h.oD o,h.below.alloc h.below.size o,h.hb8⟩
theorem Mid.drew(h:Mid w wq b8 v0 v1 g cl S A1 C1 D A2 C2):Mid w wq.drew b8 v0 v1 g cl S A1 C1 D A2 C2:=⟨h.F8,h.F2,h.oS,h.oD,h.below.drew,h.hb8⟩
theorem Mid.j1i(h:Mid w wq b8 v0 v1 g cl S A1 C1 D A2 C2){w':World}{A':Option Addr}{C':Nat}{s:ByteArray}(c:w'.ownsRow (w.heap.size+2) 9 1 (J1 A' (S.length+1) C') (S.length+1) (S.map .string ++ [.string s]))(a:wq.grownBy w' (Value.slice A1 S.length C1).ownBlock):Mid w w' b8 v0 v1 g cl (S ++ [s]) A' C' D A2 C2:=by
 refine⟨(a.block b8 h.F8.lt (own_ne h.oS h.F8 (by decide))).trans h.F8,(a.block _ h.F2.lt (own_ne h.oS h.F2 (by decide))).trans h.F2,?_,?_,h.below.grown a h.below.size (fun k b=>by have:=(World.ownsRow.lt h.oS k b).1;omega),h.hb8⟩
 ·unfold q9x
  simpa using c
 ·exact z0n h.oD fun k b=>a.block k (World.ownsRow.lt h.oD k b).2 (z5B h.oS h.oD (by decide) k b)
theorem Mid.j1A(h:Mid w wq b8 v0 v1 g cl S A1 C1 D A2 C2){w':World}{A':Option Addr}{C':Nat}{s:Int}(c:w'.ownsRow (w.heap.size+2) 3 1 (J1 A' (D.length+1) C') (D.length+1) (D.map (.int .i64) ++ [J I s]))(a:wq.grownBy w' (Value.slice A2 D.length C2).ownBlock):Mid w w' b8 v0 v1 g cl S A1 C1 (D ++ [s]) A' C':=by
 refine⟨(a.block b8 h.F8.lt (own_ne h.oD h.F8 (by decide))).trans h.F8,(a.block _ h.F2.lt (own_ne h.oD h.F2 (by decide))).trans h.F2,?_,?_,h.below.grown a h.below.size (fun k b=>by have:=(World.ownsRow.lt h.oD k b).1;omega),h.hb8⟩
 ·exact z0n h.oS fun k b=>a.block k (World.ownsRow.lt h.oS k b).2 (z5B h.oD h.oS (by decide) k b)
 ·unfold q8S
  simpa using c
theorem Mid.set{a b:Value}{i:Int}{c:Bool}(h:Mid w wq b8 v0 v1 g cl S A1 C1 D A2 C2){w':World}(j:FAt w' b8 a b (J I i) (J3 c))(d:∀ k,k≠b8->w'.heap[k]?=wq.heap[k]?)(l:Bl w w'):Mid w w' b8 a b i c S A1 C1 D A2 C2:=
 ⟨j,(d _ (by have:=h.hb8;omega)).trans h.F2,z0n h.oS fun k e=>d k (fun f=>own_ne h.oS h.F8 (by decide) (f ▸ e).symm),z0n h.oD fun k e=>d k (fun f=>own_ne h.oD h.F8 (by decide) (f ▸ e).symm),l,h.hb8⟩
theorem Mid.fin{b c:Nat}{n:Line}{f:Func}{p q:Tmp}(a:f.results=#[.cell p 37,.tmp q])(h:Mid w wq b8 v0 v1 g cl S A1 C1 D A2 C2)(d:S.length * 16<=140737488351232)(i:D.length * 8<=140737488351232)(j l:Nat)(o:j=S.length)(s:l=D.length)(m:Int)(r:Line×Int)(t:r=(⟨S,D,g,cl⟩,m))(act:Act)
  (u:act.tmps.getD p undef=J2 (some ⟨w.heap.size+1,0,none⟩)) (v:act.tmps.getD q undef=J I m) (hd:act.defers=[]) :
  bodyPost prog f (fun e w'=>Ans b c n w r e w') Exit.ret act (q1X wq (w.heap.size+1) (J1 A1 j C1) (J1 A2 l C2) (J I g) (J3 cl)):=by
 obtain⟨y,z,L,l1,l2⟩:=q6I.at (x:=⟨S,D,g,cl⟩) ⟨h.oS,h.oD,fun k h1 h2=>z5B h.oD h.oS (by decide) k h1 h2.symm⟩ d i
 exact z7f a h.F2 h.below (Nat.le_succ _) ⟨S,D,g,cl⟩ A1 A2 C1 C2 y 0 z 0 L (fun h0=>by have:=(l1 h0).1;omega) (fun h0=>by have:=(l2 h0).1;omega) (fun h0=>.inr (by have:=(l1 h0).1;omega)) (fun h0=>.inr (by have:=(l2 h0).1;omega)) j l o s m r t act u v hd
end
theorem q3L{w:World}{q:Nat}{v:Value}(b:w.cell? ⟨q,0,none⟩=some v):∀ a,some (⟨q,0,none⟩:Addr)=some a->∀ j u,[v][j]?=some u->w.cell? (a.add j)=some u:=by
 intro a e j u hu;cases e
 match j with
 | 0=>simp at hu;subst hu;rw[Addr.add_lit];exact b
 | j+1=>simp at hu
section
variable {w wq:World} {b8:Nat} {v0 v1:Value} {g:Int} {cl:Bool} {S:List ByteArray} {A1:Option Addr} {C1:Nat} {D:List Int} {A2:Option Addr} {C2:Nat}
theorem q7j{ops:Array Oper}{o:Oper}{a:Act}{K:Act->World->Prop}{Q:Exit->Act->World->Prop}{E:Prop}(l:o.guard=none)(x y:Operand)
  (d:o.op=Op.call { callee:=Callee.builtin Builtin.append,args:=#[x,y],argTypes:=#[35,35] }) (c:Mid w wq b8 v0 v1 g cl S A1 C1 D A2 C2) (m:a.eval x=J1 A1 S.length C1) (q:Nat) (n:a.eval y=J1 (some ⟨q,0,none⟩) 1 1) (s:ByteArray)
  (p:wq.cell? ⟨q,0,none⟩=some (.string s)) (hl:S.length<400)
  (r:∀ A C w',Mid w w' b8 v0 v1 g cl (S ++ [s]) A C D A2 C2/\(∀ (k:Nat) (u:Value),wq.heap[k]?=some (Obj.cells #[u] 3)->w'.heap[k]?=some (Obj.cells #[u] 3))->K (a.put o.dst (J1 A (S.length+1) C)) w') :
  if Region.wanted o (yielded ops a.tmps)=true then Oper.wp prog o a wq K Q else E:=by
 obtain⟨t,v,e,f,i⟩:=info_parts z7x;refine z2Q l x y 35 d (w.heap.size+2) 9 t _ 1 16 underlying35 v e f i rfl (by decide) _ S.length (S.map .string) m c.oS (some ⟨q,0,none⟩) 1 1 [.string s] n rfl (fun h=>by cases h) (q3L p) (by simp[Value.oneCell']) (by unfold maxLen;omega) (by omega) (by have:=c.F2.lt;omega) ?_
 intro A C w' z b;refine r A C w' ⟨c.j1i z b,fun k u j=>(b.block k (Array.getElem?_eq_some_iff.1 j).1 (own_ne c.oS j (by decide))).trans j⟩
theorem q8L{ops:Array Oper}{o:Oper}{a:Act}{K:Act->World->Prop}{Q:Exit->Act->World->Prop}{E:Prop}(j:o.guard=none)(x y:Operand)
  (b:o.op=Op.call { callee:=Callee.builtin Builtin.append,args:=#[x,y],argTypes:=#[34,34] }) (c:Mid w wq b8 v0 v1 g cl S A1 C1 D A2 C2) (k:a.eval x=J1 A2 D.length C2) (q:Nat) (l:a.eval y=J1 (some ⟨q,0,none⟩) 1 1) (s:Int)
  (m:wq.cell? ⟨q,0,none⟩=some (J I s)) (hl:D.length<400)
  (n:∀ A C w',Mid w w' b8 v0 v1 g cl S A1 C1 (D ++ [s]) A C->K (a.put o.dst (J1 A (D.length+1) C)) w') :
  if Region.wanted o (yielded ops a.tmps)=true then Oper.wp prog o a wq K Q else E:=by
 obtain⟨p,r,d,e,f⟩:=info_parts q1J;refine z2Q j x y 34 b (w.heap.size+2) 3 p _ 1 8 underlying34 r d e f rfl (by decide) _ D.length (D.map (.int .i64)) k c.oD (some ⟨q,0,none⟩) 1 1 [J I s] l rfl (fun h=>by cases h) (q3L m) (by simp[Value.oneCell']) (by unfold maxLen;omega) (by omega) (by have:=c.F2.lt;omega) ?_
 intro A C w' t i;exact n A C w' (c.j1A t i)
end
theorem q9z(w:World)(u:Value)(e:TypeId):(w.alloc (J5 #[u] e)).heap[w.heap.size]?=some (J5 #[u] e):=heap_alloc_new _ _
theorem q6G(w:World)(o:Obj)(u:Value)(e:TypeId):((w.alloc o).alloc (J5 #[u] e)).heap[w.heap.size+1]?=some (J5 #[u] e):=by
 have:=heap_alloc_new (w.alloc o) (J5 #[u] e)
 rwa [show (w.alloc o).heap.size=w.heap.size+1 by simp]at this
theorem q8K(w:World)(o:Obj)(u:Value)(e:TypeId):((w.alloc (J5 #[u] e)).alloc o).heap[w.heap.size]?=some (J5 #[u] e):=(Below.heap_alloc _ _ _ (by simp)).trans (heap_alloc_new _ _)
theorem z7M{w:World}{q:Nat}{u:Value}{e:TypeId}(h:w.heap[q]?=some (J5 #[u] e)):w.cell? ⟨q,0,none⟩=some u:=by simp[World.cell?,h]
end Ln
namespace Ln
open Go.RowKit
theorem q1G(x:Line)(s:ByteArray)(due:Int) :
  (z1C x=false/\(z5z x s due,z4M x due)=(x,2))∨(z1C x=true/\((due<0/\(z5z x s due,z4M x due)=(x,2))∨(0<=due/\((x.cl=true/\(z5z x s due,z4M x due)=(x,11))∨(x.cl=false /\
   ((x.S.length=400/\(z5z x s due,z4M x due)=(x,6))∨(x.S.length<400/\(z5z x s due,z4M x due)=(⟨x.S ++ [s],x.D ++ [due],x.g,x.cl⟩,0)))))))):=by
 have a:=z8k x s due
 by_cases c:z1C x=true
 ·right
  have hl:=z5w c;refine⟨c,?_⟩
  rcases a with⟨h1,hr⟩ | ⟨h1,h2,hr⟩ | ⟨h1,h2,h3,hr⟩ | ⟨h1,h2,h3,hr⟩
  ·exact .inl ⟨h1,hr⟩
  ·refine .inr ⟨h1,.inl ?_⟩;unfold z8D at h2 hr;rw[if_neg (by simp[c])]at h2 hr
   cases a:x.cl
   ·rw[a]at h2;exact absurd rfl h2
   ·rw[a,if_pos rfl]at hr;exact⟨rfl,hr⟩
  ·exact .inr ⟨h1,.inr ⟨(z5D h2).2,.inl ⟨by omega,hr⟩⟩⟩
  ·exact .inr ⟨h1,.inr ⟨(z5D h2).2,.inr ⟨h3,hr⟩⟩⟩
 ·left
  have b:z1C x=false:=by simpa using c
  refine⟨b,?_⟩;have d:z8D x=2:=by unfold z8D;rw[if_pos b]
  rcases a with⟨h1,hr⟩ | ⟨h1,h2,hr⟩ | ⟨h1,h2,h3,hr⟩ | ⟨h1,h2,h3,hr⟩
  ·exact hr
  ·rw[d]at hr;exact hr
  ·rw[d]at h2;cases h2
  ·rw[d]at h2;cases h2
theorem q5J(x:Line)(sa da:Option Addr)(cs cd sb so db dO:Nat)(s:ByteArray)(due:Int)(w:World)(L:LAt w x sa da cs cd sb so db dO) :
  Calls prog 53 #[J4 #[J1 sa x.S.length cs,J1 da x.D.length cd,J I x.g,J3 x.cl],.string s,J I due] w fun e w'=>Ans sb db x w (z5z x s due,z4M x due) e w':=by
 have d:=q1G x s due;generalize (z5z x s due,z4M x due)=r at *;have j:=J6 (begun L);have c:=J6 (fun w (L:LAt w x sa da cs cd sb so db dO)=>z0T x sa da cs cd sb so db dO w L);have o:=J6 (z5w (x:=x));clear L;obtain⟨i0,hi,a0,a1,a2⟩:=info_parts z7x;obtain⟨j0,hj,a3,a4,a5⟩:=info_parts q1J
 go_enter func53,ntmps53
 go_upto_region 1 with fail
 generalize ((w.alloc (J5 #[J1 sa x.S.length cs,J1 da x.D.length cd,J I x.g,J3 x.cl] 37)).alloc (J5 #[J1 none 0 0,J1 none 0 0,J I 0,J3 false] 37))=w0 at *;obtain⟨⟨c0,c1,c2,c3⟩,-⟩:=j.out.F1.facts;obtain⟨⟨q,t,u,v⟩,⟨f0,f1,f2,f3⟩⟩:=j.out.F2.facts;generalize z1C x=G at *
 rcases d with⟨rfl,hr⟩ | ⟨rfl,d⟩
 ·have l:=J6 hr;clear hr
  go_wp2_with (go_at_call 93;refine (c.out _ j.out.L).mono ?_;rintro e w1⟨rfl,i⟩;have a:=J6 (j.out.over i);clear i c0 c1 c2 c3 q t u v f0 f1 f2 f3;obtain⟨⟨c0,c1,c2,c3⟩,-⟩:=a.out.F1.facts;obtain⟨⟨q,t,u,v⟩,⟨f0,f1,f2,f3⟩⟩:=a.out.F2.facts)
  exact a.out.z3S rfl _ _ l.out _ rfl rfl rfl
 obtain⟨C,T,-,-⟩:=o.out rfl;have E:=J6 C;clear C
 rcases d with⟨h2,hr⟩ | ⟨h2,d⟩
 ·have l:=J6 hr;clear hr
  go_wp2_with (go_at_call 93;refine (c.out _ j.out.L).mono ?_;rintro e w1⟨rfl,i⟩;have a:=J6 (j.out.over i);clear i c0 c1 c2 c3 q t u v f0 f1 f2 f3;obtain⟨⟨c0,c1,c2,c3⟩,-⟩:=a.out.F1.facts;obtain⟨⟨q,t,u,v⟩,⟨f0,f1,f2,f3⟩⟩:=a.out.F2.facts)
  exact a.out.z3S rfl _ _ l.out _ rfl rfl rfl
 go_upto_region 3 with (go_at_call 93;refine (c.out _ j.out.L).mono ?_;rintro e w1⟨rfl,i⟩;have a:=J6 (j.out.over i);clear i c0 c1 c2 c3 q t u v f0 f1 f2 f3;obtain⟨⟨c0,c1,c2,c3⟩,-⟩:=a.out.F1.facts;obtain⟨⟨q,t,u,v⟩,⟨f0,f1,f2,f3⟩⟩:=a.out.F2.facts)
 clear j c w0;obtain⟨S,D,g,cl⟩:=x;dsimp only at *
 rcases d with⟨rfl,hr⟩ | ⟨rfl,d⟩
 ·have l:=J6 hr;clear hr;go_wp2;exact a.out.z3S rfl _ _ l.out _ rfl rfl rfl
 rcases d with⟨h4,hr⟩ | ⟨h4,hr⟩
 ·have l:=J6 hr;have U:((S.length:Int) == 400)=true:=by simp;omega
  clear hr h4 T E o;go_wp2;exact a.out.z3S rfl _ _ l.out _ rfl rfl rfl
 have l:=J6 hr;have U:((S.length:Int) == 400)=false:=by simp;omega
 clear hr;have f:=J6 (z3s ⟨S,D,g,false⟩ sa da cs cd sb so db dO w1 a.out.L);dsimp only at f
 go_upto_region 8 with (go_at_call 43;refine f.out.mono ?_;rintro e F⟨A1,C1,A2,C2,rfl,Z,i⟩;have V:=J6 Z;have h:=J6 (a.out.over i);clear i Z c0 c1 c2 c3 q t u v f0 f1 f2 f3)
 have N:Mid w (F.alloc (J5 #[J1 A1 S.length C1,J1 A2 D.length C2,J I g,J3 false] 37)) F.heap.size (J1 A1 S.length C1) (J1 A2 D.length C2) g false S A1 C1 D A2 C2:=
  ⟨FAt.new F _ _ _ _,h.out.F2.alloc _,World.ownsRow.alloc (z0U V.out.oS (by have:=a.out.size;omega)) _,World.ownsRow.alloc (z0U V.out.oD (by have:=a.out.size;omega)) _,h.out.below.alloc h.out.below.size _,h.out.size⟩
 have hb8:=h.out.size;clear V h a f;generalize F.heap.size=b8 at *;generalize F.alloc (J5 #[J1 A1 S.length C1,J1 A2 D.length C2,J I g,J3 false] 37)=w3 at *;have W:=J6 N;obtain⟨⟨c0,c1,c2,c3⟩,-⟩:=N.F8.facts;have z3:=N.F8.lt;clear N;have H:D.length<400:=by rw[E.out];exact h4
 go_region_law (first
  | (refine q7j rfl _ _ rfl (W.out.alloc (J5 #[.string s] 9)).drew rfl _ rfl s (z7M (q9z w3 _ _)) h4 ?_;rintro K M X⟨b,hq⟩;have m:=J6 b;have z4:=b.F8.lt;clear c0 c1 c2 c3;obtain⟨⟨c0,c1,c2,c3⟩,⟨y,z,A,B⟩⟩:=b.F8.facts;clear b hq)
  | (refine q7j rfl _ _ rfl ((W.out.alloc (J5 #[.string s] 9)).alloc (J5 #[J I due] 3)).drew rfl _ rfl s (z7M (q8K w3 _ _ _)) h4 ?_;rintro K M X⟨b,hq⟩;have m:=J6 b;have z4:=b.F8.lt;clear c0 c1 c2 c3;obtain⟨⟨c0,c1,c2,c3⟩,⟨y,z,A,B⟩⟩:=b.F8.facts;have kq:=hq _ _ (q6G w3 (J5 #[.string s] 9) (J I due) _);clear b hq)
  | (refine q7j rfl _ _ rfl ((W.out.alloc (J5 #[J I due] 3)).alloc (J5 #[.string s] 9)).drew rfl _ rfl s (z7M (q6G w3 _ _ _)) h4 ?_;rintro K M X⟨b,hq⟩;have m:=J6 b;have z4:=b.F8.lt;clear c0 c1 c2 c3;obtain⟨⟨c0,c1,c2,c3⟩,⟨y,z,A,B⟩⟩:=b.F8.facts;have kq:=hq _ _ (q8K w3 (J5 #[.string s] 9) (J I due) _);clear b hq)
  | (refine q8L rfl _ _ rfl m.out rfl _ rfl due (z7M kq) H ?_;rintro P Q w5 b;have n:=J6 b;have z5:=b.F8.lt;clear c0 c1 c2 c3 y z A B;obtain⟨⟨c0,c1,c2,c3⟩,⟨y,z,A,B⟩⟩:=b.F8.facts;clear b)
  | (refine q8L rfl _ _ rfl (m.out.alloc (J5 #[J I due] 3)) rfl _ rfl due (z7M (q9z X _ _)) H ?_;rintro P Q w5 b;have n:=J6 b;have z5:=b.F8.lt;clear c0 c1 c2 c3 y z A B;obtain⟨⟨c0,c1,c2,c3⟩,⟨y,z,A,B⟩⟩:=b.F8.facts;clear b))
 all_goals
  have R:=n.out.set ((n.out.F8.z9e (J1 K (S.length+1) M)).z8J (J1 P (D.length+1) Q)) (fun k hk=>by rw[Below.heap_setCell _ _ _ _ hk,Below.heap_setCell _ _ _ _ hk]) ((n.out.below.setCell (p:=⟨b8,0,none⟩) (by show w.heap.size<=b8;omega) (J1 K (S.length+1) M)).setCell (p:=⟨b8,1,none⟩) (by show w.heap.size<=b8;omega) (J1 P (D.length+1) Q))
  clear c0 c1 c2 c3 y z A B;generalize (w5.setCell ⟨b8,0,none⟩ (J1 K (S.length+1) M)).setCell ⟨b8,1,none⟩ (J1 P (D.length+1) Q)=w6 at *;obtain⟨⟨c0,c1,c2,c3⟩,-⟩:=R.F8.facts;obtain⟨⟨q,t,u,v⟩,⟨f0,f1,f2,f3⟩⟩:=R.F2.facts;have Y:=J6 R;clear R;go_wp2;exact Y.out.fin rfl (by simp;omega) (by simp;omega) _ _ (by simp) (by simp) _ _ l.out _ rfl rfl rfl
end Ln
namespace Pv
open Go.RowKit
def z1I(P:Nat->Prop)(w:World)(v:Value)(sz bts:Nat)(cs:List Value):Prop:=∃ (A:Option Addr) (n C C':Nat),v=J1 A n C/\(A=none->C=0)/\Rep P w (J1 A n C') sz bts cs
section
variable {P P':Nat->Prop} {w w':World} {v:Value} {sz bts:Nat} {cs:List Value}
theorem Rep.c(h:Rep P w v sz bts cs):z1I P w v sz bts cs:=by
 obtain⟨A,n,C,rfl,h2⟩:=id h;exact⟨A,n,C,C,rfl,h2.2.2.1.1,h⟩
theorem z1I.nil(P:Nat->Prop)(w:World)(sz bts:Nat):z1I P w (J1 none 0 0) sz bts []:=(Rep.nil P w sz bts).c
theorem z1I.mono(h:z1I P w v sz bts cs)(a:∀ b,b<w.heap.size->P b->P' b):z1I P' w v sz bts cs:=by
 obtain⟨A,n,C,C',h1,h2,h3⟩:=h;exact⟨A,n,C,C',h1,h2,h3.mono a⟩
theorem z1I.keep(h:z1I P w v sz bts cs)(a:∀ b,P b->b<w.heap.size->w'.heap[b]?=w.heap[b]?):z1I P w' v sz bts cs:=by
 obtain⟨A,n,C,C',h1,h2,h3⟩:=h;exact⟨A,n,C,C',h1,h2,h3.keep a⟩
theorem z1I.over(h:z1I P w v sz bts cs)(c:Bl w w'):z1I P w' v sz bts cs:=h.keep fun b _ a=>c.block b a
theorem z1I.map(h:z1I P w v sz bts cs)(k:∀ u,Rep P w u sz bts cs->Rep P' w' u sz bts cs):z1I P' w' v sz bts cs:=by
 obtain⟨A,n,C,C',h1,h2,h3⟩:=h;exact⟨A,n,C,C',h1,h2,k _ h3⟩
theorem z1I.one(h:z1I P w v sz bts cs):v.oneCell'=true:=by
 obtain⟨A,n,C,C',rfl,_⟩:=h;rfl
theorem z1I.line{x:Ln.Line}{v1 v2:Value}(h1:z1I P w v1 1 16 (txC x.S))(h2:z1I P w v2 1 8 (inC x.D)):∃ A1 C1 A2 C2 sb so db dO,v1=J1 A1 x.S.length C1/\v2=J1 A2 x.D.length C2/\Ln.LAt w x A1 A2 C1 C2 sb so db dO/\(0<x.S.length->P sb)/\(0<x.D.length->P db):=by
 obtain⟨A,n,C,C',rfl,a,r1⟩:=h1;obtain⟨B,m,D,e,rfl,b,r2⟩:=h2;obtain⟨A1,C1,A2,C2,sb,so,db,dO,c,d,L,p1,p2⟩:=Rep.line r1 r2;cases c;cases d;exact⟨_,_,_,_,sb,so,db,dO,rfl,rfl,⟨L.hls,L.hld,L.hsa,L.hda,a,b,L.PS,L.PD⟩,p1,p2⟩
theorem q7V{x:Ln.Line}{sa da:Option Addr}{cs cd sb so db dO:Nat}(L:Ln.LAt w x sa da cs cd sb so db dO)(b:0<x.S.length->P sb):z1I P w (J1 sa x.S.length cs) 1 16 (txC x.S):=by
 refine⟨sa,x.S.length,cs,x.S.length,rfl,L.ncs,sa,x.S.length,x.S.length,rfl,z4E _,L.hls,⟨fun e=>?_,Nat.le_refl _⟩,fun h0=>⟨sb,so,L.hsa h0,b h0,L.ltS h0,fun j u hu=>?_⟩⟩
 ·rcases Nat.eq_zero_or_pos x.S.length with h | h
  ·exact h
  ·rw[L.hsa h]at e;cases e
 ·have a:j<x.S.length:=by have:=(List.getElem?_eq_some_iff.1 hu).1;rw[z4E]at this;omega
  rw[L.PS j a,<- hu,q2Q _ j a]
theorem q8g{x:Ln.Line}{sa da:Option Addr}{cs cd sb so db dO:Nat}(L:Ln.LAt w x sa da cs cd sb so db dO)(b:0<x.D.length->P db):z1I P w (J1 da x.D.length cd) 1 8 (inC x.D):=by
 refine⟨da,x.D.length,cd,x.D.length,rfl,L.ncd,da,x.D.length,x.D.length,rfl,z0M _,L.hld,⟨fun e=>?_,Nat.le_refl _⟩,fun h0=>⟨db,dO,L.hda h0,b h0,L.ltD h0,fun j u hu=>?_⟩⟩
 ·rcases Nat.eq_zero_or_pos x.D.length with h | h
  ·exact h
  ·rw[L.hda h]at e;cases e
 ·have a:j<x.D.length:=by have:=(List.getElem?_eq_some_iff.1 hu).1;rw[z0M]at this;omega
  rw[L.PD j a,<- hu,z3f _ j a]
end
def j0a(P:Nat->Prop)(w:World)(x:Ln.Line)(a:Int)(e:Ending)(w':World):Prop:=∃ u1 u2,e=.returned (.tuple #[J4 #[u1,u2,J I x.g,J3 x.cl],J I a])/\z1I (New P w 0) w' u1 1 16 (txC x.S)/\z1I (New P w 0) w' u2 1 8 (inC x.D)/\Bl w w'
theorem q9K{P:Nat->Prop}{w w':World}{x y:Ln.Line}{a:Int}{e:Ending}{A1 A2:Option Addr}{C1 C2 sb so db dO:Nat}(L:Ln.LAt w x A1 A2 C1 C2 sb so db dO)(p1:0<x.S.length->P sb)(p2:0<x.D.length->P db)(h:Ln.Ans sb db x w (y,a) e w'):j0a P w y a e w':=by
 obtain⟨v,rfl,⟨sa,da,cs,cd,c,d,f,g,rfl,b,i,j⟩,k⟩:=h;refine⟨_,_,rfl,q7V b fun h0=>?_,q8g b fun h0=>?_,k⟩
 ·rcases (i h0).2 with⟨rfl,e⟩ | h
  ·rw[e]at h0;exact .inl ⟨p1 h0,L.ltS h0⟩
  ·exact .inr h
 ·rcases (j h0).2 with⟨rfl,e⟩ | h
  ·rw[e]at h0;exact .inl ⟨p2 h0,L.ltD h0⟩
  ·exact .inr h
theorem q7d(x:Ln.Line)(s:ByteArray)(due:Int)(v1 v2:Value)(P:Nat->Prop)(w:World)(h1:z1I P w v1 1 16 (txC x.S))(h2:z1I P w v2 1 8 (inC x.D)):Calls prog 72 #[J4 #[v1,v2,J I x.g,J3 x.cl],.string s,J I due] w (j0a P w (Ln.z5z x s due) (Ln.z4M x due)):=by
 obtain⟨A1,C1,A2,C2,sb,so,db,dO,rfl,rfl,L,p1,p2⟩:=z1I.line h1 h2;exact (Ln.q7W x A1 A2 C1 C2 sb so db dO s due w L).mono fun e w' h=>q9K L p1 p2 h
theorem z9V(x:Ln.Line)(s:ByteArray)(due:Int)(v1 v2:Value)(P:Nat->Prop)(w:World)(h1:z1I P w v1 1 16 (txC x.S))(h2:z1I P w v2 1 8 (inC x.D)):Calls prog 53 #[J4 #[v1,v2,J I x.g,J3 x.cl],.string s,J I due] w (j0a P w (Ln.z5z x s due) (Ln.z4M x due)):=by
 obtain⟨A1,C1,A2,C2,sb,so,db,dO,rfl,rfl,L,p1,p2⟩:=z1I.line h1 h2;exact (Ln.q5J x A1 A2 C1 C2 sb so db dO s due w L).mono fun e w' h=>q9K L p1 p2 h
end Pv
section
open Go.RowKit
def wtL(x:Wt):List Value:=[J I x.num,J I x.d,J I x.v,J I x.amt,J I x.hei,J I x.due,J I x.h0,J I x.h1]
theorem z1y(x:Wt):(wtL x).length=8:=rfl
def wsL(W:List Wt):List Value:=W.flatMap wtL
theorem z2m:∀ W:List Wt,(wsL W).length=W.length * 8
 | []=>rfl
 | x :: W=>by show (wtL x ++ wsL W).length=_;rw[List.length_append,z2m W,z1y,List.length_cons];omega
theorem z4D:∀ (W:List Wt) (i:Nat) (x:Wt) (j:Nat),W[i]?=some x->j<8->(wsL W)[i * 8+j]?=(wtL x)[j]?
 | [],i,x,j,h,_=>by simp at h
 | y :: W,0,x,j,h,hj=>by
  simp at h
  subst h
  show (wtL y ++ wsL W)[0 * 8+j]?=_
  rw[List.getElem?_append_left (by rw[z1y];omega),Nat.zero_mul,Nat.zero_add]
 | y :: W,i+1,x,j,h,hj=>by
  show (wtL y ++ wsL W)[(i+1) * 8+j]?=_
  rw[List.getElem?_append_right (by rw[z1y];omega),z1y,show (i+1) * 8+j - 8=i * 8+j by omega]
  exact z4D W i x j (by simpa using h) hj
theorem q0x{w:World}{ao:Option Addr}{b o:Nat}{W:List Wt}(h:z1R w ao b o W):∀ j v,(wsL W)[j]?=some v->w.cell? ⟨b,o+j,none⟩=some v:=by
 intro j v c;have hl:=(List.getElem?_eq_some_iff.1 c).1;rw[z2m]at hl;have a:j / 8<W.length:=by omega
 have d:W[j / 8]?=some (W[j / 8]'a):=List.getElem?_eq_getElem a;have e:=z4D W (j / 8) _ (j % 8) d (by omega)
 rw[show j / 8 * 8+j % 8=j by omega,c]at e
 obtain⟨c0,c1,c2,c3,f,g,i,k⟩:=h.cell _ _ d;have hd:j=j / 8 * 8+j % 8:=by omega
 generalize W[j / 8]'a=x at *;generalize hq:j / 8=q at *;have l:j % 8<8:=by omega
 generalize j % 8=r at *;subst hd
 rcases (show r=0∨r=1∨r=2∨r=3∨r=4∨r=5∨r=6∨r=7 by omega) with rfl | rfl | rfl | rfl | rfl | rfl | rfl | rfl <;> simp[wtL]at e <;> subst e <;> rw[<- Nat.add_assoc] <;> assumption
theorem z9n{w:World}{b:Nat}{W:List Wt}(hl:W.length * 64<=140737488351232)(h:∀ j v,(wsL W)[j]?=some v->w.cell? ⟨b,j,none⟩=some v):z1R w (some ⟨b,0,none⟩) b 0 W:=by
 refine⟨fun _=>rfl,hl,fun i x a=>?_⟩
 have k:∀ j,j<8->∀ v,(wtL x)[j]?=some v->w.cell? ⟨b,0+i * 8+j,none⟩=some v:=fun j c v d=>by
  rw[Nat.zero_add];exact h _ _ ((z4D W i x j a c).trans d)
 exact⟨k 0 (by omega) _ rfl,k 1 (by omega) _ rfl,k 2 (by omega) _ rfl,k 3 (by omega) _ rfl,k 4 (by omega) _ rfl,k 5 (by omega) _ rfl,k 6 (by omega) _ rfl,k 7 (by omega) _ rfl⟩
theorem z0n{w w':World}{b e z n:Nat}{v:Value}{c:List Value}(h:w.ownsRow b e z v n c)(d:∀ k,v.ownBlock=some k->w'.heap[k]?=w.heap[k]?):w'.ownsRow b e z v n c:=by
 refine⟨h.1,?_⟩
 rcases h.2 with f | ⟨g,cap,a,rfl,i,j,rest⟩
 ·exact .inl f
 ·exact .inr ⟨g,cap,a,rfl,i,(d g rfl).trans j,rest⟩
theorem q5R(w:World)(ao:Option Addr)(n:Nat)(h:Src w ao n 8 64):(cpW w ao n 8 127 (J4 #[.int .i64 0,.int .i64 0,.int .i64 0,.int .i64 0,.int .i64 0,.int .i64 0,.int .i64 0,.int .i64 0])).ownsRow w.heap.size 127 8 (.slice (cpA w n) n (cpC w n 127)) n (z0s w ao (n * 8)):=by
 refine⟨by simp[z0s],?_⟩
 by_cases h0:n=0
 ·left
  subst h0;exact⟨rfl,rfl⟩
 ·right
  have hl:(z0s w ao (n * 8)).length=n * 8:=by simp[z0s]
  have h1:=h.1;rw[cpA,cpC,cpW,if_neg h0,if_neg h0,if_neg h0];refine⟨w.heap.size,_,_,rfl,Nat.le_refl _,heap_alloc_new w.drew _,grownCap_ge _ _ _ _,grownCap_le_maxLen _ _ _ _ (by simp only[maxLen];omega),?_,?_⟩
  ·have:=grownCap_ge w n 0 127;simp only[Array.size_append,List.size_toArray,size_zeroCells,hl];simp only[Value.cells,List.size_toArray,List.length_cons,List.length_nil];omega
  ·simp only[Array.toList_append];exact List.take_left' hl
theorem z7n{ops:Array Oper}{rest:List Oper}{o:Oper}{a:Act}{w:World}{Q:Exit->Act->World->Prop}(f:o.guard=none)(b:o.type=30)(s x:Operand)
  (d:o.op=Op.call { callee:=Callee.builtin Builtin.append,args:=#[s,x],argTypes:=#[30,30] }) (ao:Option Addr) (n c:Nat) (g:a.eval s=J1 none 0 0) (i:a.eval x=J1 ao n c) (h:Src w ao n 8 64)
  (j:∀ A C w',z1Z w ao n 8 A w'/\w'.ownsRow w.heap.size 127 8 (J1 A n C) n (z0s w ao (n * 8))->wpList prog ops Q rest (a.put o.dst (J1 A n C)) w'):wpList prog ops Q (o :: rest) a w:=by
 refine wpList_plain f fun _ e=>?_;unfold Oper.wp;have k:=apW w ao n c h
 simp[execOp,d,resolve,invoke,builtin,g,i,b,k,Result.andThen]
 exact e _ _ (j _ _ _ ⟨z3j w ao n 8 64 127 _ h,q5R w ao n h⟩)
theorem q4F(cs:Array Value)(sa:Option Addr)(n l:Nat)(w:World)(a:cs.size=63)(d:cs[61]?=some (J1 sa n l))(f:cs.all (·.oneCell')=true)(g:Src w sa n 8 64) :
  Calls prog 42 #[J4 cs] w fun e w'=>∃ A C w0 w1,w1.ownsRow w0.heap.size 127 8 (J1 A n C) n (z0s w0 sa (n * 8))/\e=.returned (J4 (cs.setIfInBounds 61 (J1 A n C)))/\Bl w w0/\w.heap.size+2<=w0.heap.size/\z1Z w0 sa n 8 A w1/\Bl w w'/\(∀ b,w.heap.size+2<=b->w'.heap[b]?=w1.heap[b]?):=by
 have q:cs[61]'(by omega)=J1 sa n l:=by simpa [Array.getElem?_eq_getElem (show 61<cs.size by omega)] using d
 go_enter func42,ntmps42
 go_upto_region 2 with (first
  | (at_builtin;refine z7n rfl rfl _ _ rfl sa n l rfl (by simp[Act.eval]) (g.later ((znw w _).alloc (by simp) _)) ?_;rintro A C w1⟨c,hown⟩;obtain⟨r,s,h,i⟩:=z6M (C:=C) c d;have m:=h.range;have j:Hid (SAt (w1.setCell ⟨w.heap.size,61,none⟩ (J1 A n C)) (w.heap.size+1) Z63):=i;have k:Hid (z1Z _ sa n 8 A w1):=c;have o:=J6 hown;clear h i c hown))
 have p:Hid (Bl w w1):=((znw w _).alloc (by simp) _).trans (k.out.below.mono (by simp;omega))
 apply wp_region_lit;refine wpList_load_mid rfl 32 _ rfl w.heap.size 0 rfl _ _ m underlying32 rfl (by rw[z0l];simp[a]) ?_
 refine wpList_store_mid rfl 32 _ _ rfl (w.heap.size+1) 0 (cs.setIfInBounds 61 (J1 A n C)) rfl rfl (j.out.there 0 _ (by simp[Z63,a])) (by rw[z0l];simp[a]) (q2s f rfl) ?_
 go_wp2;have t:=j.out.z0C (ds:=cs.setIfInBounds 61 (J1 A n C)) (by simp[Z63,a])
 refine bodyPost_ret (v:=J4 (cs.setIfInBounds 61 (J1 A n C))) ?_ rfl ⟨A,C,_,w1,o.out,rfl,(znw w _).alloc (by simp) _,by simp,k.out,z0b (by omega) _ _ _ (p.out.setCell (by simp) _),fun b u=>(z0f (by omega) _ _ _).trans (Below.heap_setCell _ _ _ _ (by simp;omega))⟩
 exact results_cell_row rfl _ _ _ _ _ _ _ rfl t underlying32 rfl (by rw[z0l];simp[a])
theorem q9r{w:World}{ao:Option Addr}{sb so:Nat}{W:List Wt}(a:z1R w ao sb so W):z0s w ao (W.length * 8)=wsL W:=by
 apply List.ext_getElem?;intro j;have hl:=z2m W
 by_cases c:j<W.length * 8
 ·have h0:0<W.length:=by omega
  have b:(wsL W)[j]?=some ((wsL W)[j]'(by omega)):=List.getElem?_eq_getElem (by omega)
  have d:=q0x a j _ b;rw[b,a.adr h0]
  simp[z0s,c,Addr.add_lit,d]
 ·have e:(z0s w ao (W.length * 8)).length=W.length * 8:=by simp[z0s]
  rw[List.getElem?_eq_none (show (z0s w ao (W.length * 8)).length<=j by omega),List.getElem?_eq_none (show (wsL W).length<=j by omega)]
def z1k(B:Nat)(w:World)(A:Option Addr)(C:Nat)(W:List Wt):Prop:=w.ownsRow B 127 8 (J1 A W.length C) W.length (wsL W)
theorem z1k.to{B:Nat}{w w':World}{A:Option Addr}{C:Nat}{W:List Wt}(h:z1k B w A C W)(b:∀ k,B<=k->k<w.heap.size->w'.heap[k]?=w.heap[k]?):z1k B w' A C W:=z0n h fun k a=>b k (h.lt k a).1 (h.lt k a).2
theorem z1k.over{B:Nat}{w w':World}{A:Option Addr}{C:Nat}{W:List Wt}(h:z1k B w A C W)(a:Bl w w'):z1k B w' A C W:=h.to fun k _ b=>a.block k b
theorem z1k.cap{B:Nat}{w:World}{A:Option Addr}{C:Nat}{W:List Wt}(h:z1k B w A C W):W.length<=C:=by
 rcases h.2 with⟨hv,hn⟩ | ⟨g,cap,cur,hv,_,_,hc,_⟩
 ·omega
 ·cases hv;exact hc
theorem z3u(s:St)(ao:Option Addr)(sb so c:Nat)(w:World)(i:z1R w ao sb so s.W) :
  Calls prog 42 #[J4 (stC s (J1 ao s.W.length c))] w fun e w'=>∃ A C,e=.returned (J4 (stC s (J1 A s.W.length C)))/\z1k (w.heap.size+2) w' A C s.W/\Bl w w':=by
 refine (q4F (stC s (J1 ao s.W.length c)) ao s.W.length c w (z0d _ _) (q6J _ _) (z0q _ _ _ _) (q6V i)).mono ?_;rintro e w'⟨A,C,w0,w1,b,rfl,h0,h2,j,l,hsame⟩;refine⟨A,C,rfl,?_,l⟩;rw[q9r (i.over h0)]at b;have m:=b.2
 have a:w1.ownsRow (w.heap.size+2) 127 8 (J1 A s.W.length C) s.W.length (wsL s.W):=⟨b.1,by
  rcases m with h | ⟨g,cap,d,n,f,h3⟩
  ·exact .inl h
  ·exact .inr ⟨g,cap,d,n,Nat.le_trans h2 f,h3⟩⟩
 exact z0n a fun k o=>hsame k (World.ownsRow.lt a k o).1
theorem ap3(B:Nat)(w:World)(A:Option Addr)(C y:Nat)(W:List Wt)(x:Wt)(h:z1k B w A C W)(n:W.length<=60)(o:B<=w.heap.size)(p:∀ j v,(wtL x)[j]?=some v->w.cell? ⟨y,j,none⟩=some v) :
  ∃ g C' w',(Builtin.append_ #[30,30] 30 #[J1 A W.length C,J1 (some ⟨y,0,none⟩) 1 1]).run prog w=.ok (J1 (some ⟨g,0,none⟩) (W.length+1) C') w'/\z1k B w' (some ⟨g,0,none⟩) C' (W ++ [x])/\B<=g/\g<w'.heap.size/\Below B w w'/\(∀ k,k<w.heap.size->some k≠(Value.slice A W.length C).ownBlock->g≠k/\w'.heap[k]?=w.heap[k]?):=by
 obtain⟨q,r,e,f,i⟩:=info_parts q4k;have s:wsL (W ++ [x])=wsL W ++ wtL x:=by unfold wsL;rw[List.flatMap_append];simp
 obtain⟨g,cap,w',t,z,b,a,l⟩:=run_append_lies (P:=prog) w 30 30 B 127 q _ 8 64 underlying30 r e f i rfl (by omega) (J1 A W.length C) W.length (wsL W) h ⟨y,0,none⟩ 1 1 (wtL x) rfl (fun j v D=>by rw[Addr.add_lit,Nat.zero_add];exact p j v D) (by intro u hu;simp[wtL]at hu;rcases hu with rfl | rfl | rfl | rfl | rfl | rfl | rfl | rfl <;> rfl) (by omega) (by simp only[maxLen];omega) (by omega) o _ rfl
 have c:z1k B w' (some ⟨g,0,none⟩) cap (W ++ [x]):=by
  unfold z1k;rw[s,List.length_append];exact z
 refine⟨g,cap,w',t,c,?_,l,⟨b.os,b.tape,b.output,b.size,fun k m=>b.block k (by omega) (fun E=>?_)⟩,fun k m d=>⟨?_,b.block k m d⟩⟩
 ·exact (c.lt g rfl).1
 ·have:=(h.lt k E.symm).1;omega
 ·rcases a with a | a
  ·rintro rfl;exact d a.symm
  ·omega
theorem z2L{ops:Array Oper}{rest:List Oper}{o:Oper}{a:Act}{w:World}{Q:Exit->Act->World->Prop}(f:o.guard=none)(b:o.type=30)(p q:Operand)
  (c:o.op=Op.call { callee:=Callee.builtin Builtin.append,args:=#[p,q],argTypes:=#[30,30] }) (B:Nat) (A:Option Addr) (C y:Nat) (W:List Wt) (x:Wt) (i:a.eval p=J1 A W.length C) (l:a.eval q=J1 (some ⟨y,0,none⟩) 1 1)
  (h:z1k B w A C W) (d:W.length<=60) (m:B<=w.heap.size) (n:∀ j v,(wtL x)[j]?=some v->w.cell? ⟨y,j,none⟩=some v)
  (r:∀ g C' w',z1k B w' (some ⟨g,0,none⟩) C' (W ++ [x])/\B<=g/\g<w'.heap.size/\Below B w w'/\(∀ k,k<w.heap.size->some k≠(Value.slice A W.length C).ownBlock->g≠k/\w'.heap[k]?=w.heap[k]?)->wpList prog ops Q rest (a.put o.dst (J1 (some ⟨g,0,none⟩) (W.length+1) C')) w'):wpList prog ops Q (o :: rest) a w:=by
 refine wpList_plain f fun _ e=>?_;unfold Oper.wp;obtain⟨g,C',w',s,h1⟩:=ap3 B w A C y W x h d m n
 simp[execOp,c,resolve,invoke,builtin,i,l,b,s,Result.andThen]
 exact e _ _ (r _ _ _ h1)
end
namespace O
open Go
section
variable {P:Program} {md:Region.Mode} {ops:Array Oper} {Q:Exit->Act->World->Prop} {S:World->Prop} {c:Nat}
def z3E(P:Program)(md:Region.Mode)(ops:Array Oper)(Q:Exit->Act->World->Prop)(S:World->Prop)(c:Nat):Nat->Array Bool->Act->World->Prop
 | 0,L,a,w=>Region.ready md ops L=[]/\Q .normal a w
 | n+1,L,a,w=>(Region.ready md ops L=[]->Q .normal a w) /\
  ∀ i∈Region.ready md ops L,wpOp P ops Q i (fun b w'=>(i=c->wpAny P md ops Q n (L.setIfInBounds i true) b w')/\(i≠c->S w'/\z3E P md ops Q S c n (L.setIfInBounds i true) b w')) a w
theorem q0y:∀ (n:Nat) (L:Array Bool) (a:Act) (w:World),z3E P md ops Q S c n L a w->wpAny P md ops Q n L a w
 | 0,_,_,_,h=>h
 | n+1,L,a,w,h=>⟨h.1,fun i d=>wpOp_mono (fun f w' b=>by
   by_cases e:i=c
   ·exact b.1 e
   ·exact q0y n _ f w' (b.2 e).2) (h.2 i d)⟩
structure Shut(md:Region.Mode)(ops:Array Oper)(i c:Nat)(R:Array Bool):Prop where
 noC:R.getD c false=false
 noI:R.getD i false=false
 closed:∀ j o,j≠i->ops[j]?=some o->(∀ e∈o.after,Region.binds md e=true->R.getD e.on false=true)->R.getD j false=true
theorem q1o{i:Nat}{s:Oper}{v:Value}{R:Array Bool}(G:ops[i]?=some s)(m:∀ (j:Nat) (o:Oper) cs b,ops[j]?=some o->o.op≠.select cs b)
  (X:∀ c a w,Q (.panic c) (a.put s.dst v) w->Q (.panic c) a w) (K:Shut md ops i c R) :
  ∀ (n:Nat) (L:Array Bool) (a:Act) (w:World),(∀ j,L.getD j false=true->R.getD j false=true) ->
   (∀ j p,ops[j]?=some p->j≠i->L.getD j true=false->(∀ e∈p.after,Region.binds md e=true->e.on≠i)->s.apart ops p=true) ->
   i∈Region.ready md ops L->YieldsIf P ops S s v a->S w->i≠c ->
   z3E P md ops Q S c n (L.setIfInBounds i true) (a.put s.dst v) w->z3E P md ops Q S c (n+1) L a w:=by
 intro n
 induction n with
 | zero =>
  intro L a w _ _ t D u g H;refine⟨fun h=>(by rw[h]at t;cases t),fun j E=>?_⟩
  by_cases d:j=i
  ·subst d;exact D.wpOp G u ⟨fun e=>absurd e g,fun _=>⟨u,H⟩⟩
  ·have:=ready_mono E d;rw[H.1]at this;cases this
 | succ n ih =>
  intro L a w f hfree t D u g H;refine⟨fun h=>(by rw[h]at t;cases t),fun j E=>?_⟩
  by_cases d:j=i
  ·subst d;exact D.wpOp G u ⟨fun e=>absurd e g,fun _=>⟨u,H⟩⟩
  ·have Y:=H.2 j (ready_mono E d);obtain⟨q,p,l,hall⟩:=mem_ready.1 E;have r:R.getD j false=true:=K.closed j p d l fun e M N=>f _ (hall e M N);have x:j≠c:=fun e=>by rw[e,K.noC]at r;cases r
   have y:∀ e∈p.after,Region.binds md e=true->e.on≠i:=fun e M N T=>by
    have:=f _ (hall e M N);rw[T,K.noI]at this;cases this
   refine wpOp_mono (fun Z w' h3=>⟨fun e=>absurd e x,fun _=>?_⟩) (wpOp_putIf l (hfree j p l d q y) (fun cs b=>m i s cs b G) (fun cs b=>m j p cs b l) X D Y);obtain⟨U,-,h4⟩:=h3;obtain⟨z,h5⟩:=h4 x;refine⟨z,ih (L.setIfInBounds j true) Z w' (fun k F=>?_) (fun k ok F V A W=>?_) (ready_mono t (Ne.symm d)) U z g ?_⟩
   ·by_cases B:j=k
    ·subst B;exact r
    ·rw[getD_set_ne false B]at F;exact f k F
   ·refine hfree k ok F V ?_ W
    by_cases C:j=k
    ·subst C;exact q
    ·rw[getD_set_ne true C]at A;exact A
   ·rw[Array.setIfInBounds_comm _ _ d];exact h5
def z9W(md:Region.Mode)(ops:Array Oper)(i:Nat):Nat->Array Bool->Array Bool
 | 0,R=>R
 | n+1,R=>z9W md ops i n ((List.range ops.size).map fun j=>R.getD j false || (j != i && match ops[j]? with | some o=>o.after.all (fun e=>!(Region.binds md e) || R.getD e.on false) | none=>false)).toArray
def q4p(md:Region.Mode)(ops:Array Oper)(L:Array Bool)(i c:Nat)(R:Array Bool):Bool:=
 !(R.getD c false) && !(R.getD i false) && (L.size == ops.size) && (List.range ops.size).all fun j=>(!(L.getD j false) || R.getD j false) && (j == i || R.getD j false || match ops[j]? with | some o=>o.after.any (fun e=>Region.binds md e && !(R.getD e.on false)) | none=>true)
theorem z6H{L:Array Bool}{i:Nat}{R:Array Bool}(h:q4p md ops L i c R=true):Shut md ops i c R/\∀ j,L.getD j false=true->R.getD j false=true:=by
 simp only[q4p,Bool.and_eq_true,Bool.not_eq_true',beq_iff_eq,List.all_eq_true,List.mem_range]at h;obtain⟨⟨⟨h1,h2⟩,h3⟩,d⟩:=h;refine⟨⟨h1,h2,fun j o b f hall=>?_⟩,fun j b=>?_⟩
 ·have a:j<ops.size:=(Array.getElem?_eq_some_iff.1 f).1;have:=(d j a).2;rw[f]at this;simp only[Bool.or_eq_true,beq_iff_eq,Array.any_eq_true',Bool.and_eq_true,Bool.not_eq_true']at this
  rcases this with (h | h) | ⟨e,g,k,l⟩
  ·exact absurd h b
  ·exact h
  ·have:=hall e g k;rw[l]at this;cases this
 ·by_cases a:j<ops.size
  ·have:=(d j a).1;simp only[Bool.or_eq_true,Bool.not_eq_true']at this
   rcases this with h | h
   ·rw[b]at h;cases h
   ·exact h
  ·have:L.getD j false=false:=by
    simp[Array.getD_eq_getD_getElem?,Array.getElem?_eq_none (show L.size<=j by omega)]
   rw[this]at b;cases b
theorem q4e{i:Nat}{b:Oper}{v:Value}{n:Nat}{L:Array Bool}{a:Act}{w:World}(e:ops[i]?=some b)
  (g:Region.noSelect ops=true) (j:Region.free md ops L i=true) (k:(Region.ready md ops L).contains i=true) (f:q4p md ops L i c (z9W md ops i ops.size L)=true) (d:i≠c)
  (l:∀ c a w,Q (.panic c) (a.put b.dst v) w->Q (.panic c) a w) (m:YieldsIf P ops S b v a) (o:S w)
  (h:z3E P md ops Q S c n (L.setIfInBounds i true) (a.put b.dst v) w):z3E P md ops Q S c (n+1) L a w:=
 q1o e (Region.noSelect_spec g) l (z6H f).1 n L a w (z6H f).2 (Region.free_spec e j) (by simpa using k) m o d h
theorem z5f{i:Nat}{o:Oper}{n:Nat}{L:Array Bool}{a:Act}{w:World}(f:Region.ready md ops L=[i])(k:ops[i]?=some o)(d:i≠c)
  (h:∀ b:Act->World->Prop,(∀ a w,S w->z3E P md ops Q S c n (L.setIfInBounds i true) a w->b a w)->if Region.wanted o (yielded ops a.tmps)=true then Oper.wp P o a w b Q else b (a.put o.dst undef) w):z3E P md ops Q S c (n+1) L a w:=by
 refine⟨fun h0=>(by rw[f]at h0;cases h0),fun j g=>?_⟩
 rw[f,List.mem_singleton]at g;subst g;exact wpOp_step k fun b l=>h b fun a w m p=>l a w ⟨fun e=>absurd e d,fun _=>⟨m,p⟩⟩
theorem z5H{o:Oper}{n:Nat}{L:Array Bool}{a:Act}{w:World}(d:Region.ready md ops L=[c])(g:ops[c]?=some o)
  (h:∀ b:Act->World->Prop,(∀ a w,wpAny P md ops Q n (L.setIfInBounds c true) a w->b a w)->if Region.wanted o (yielded ops a.tmps)=true then Oper.wp P o a w b Q else b (a.put o.dst undef) w):z3E P md ops Q S c (n+1) L a w:=by
 refine⟨fun h0=>(by rw[d]at h0;cases h0),fun j f=>?_⟩
 rw[d,List.mem_singleton]at f;subst f;exact wpOp_step g fun b i=>h b fun a w k=>i a w ⟨fun _=>k,fun e=>absurd rfl e⟩
theorem q7w{i:Nat}{o:Oper}{n:Nat}{L:Array Bool}{a:Act}{w:World}(c:Region.ready md ops L=[i])(e:ops[i]?=some o)
  (h:∀ b:Act->World->Prop,(∀ a w,wpAny P md ops Q n (L.setIfInBounds i true) a w->b a w)->if Region.wanted o (yielded ops a.tmps)=true then Oper.wp P o a w b Q else b (a.put o.dst undef) w):wpAny P md ops Q (n+1) L a w:=by
 refine⟨fun h0=>(by rw[c]at h0;cases h0),fun j d=>?_⟩
 rw[c,List.mem_singleton]at d;subst d;exact wpOp_step e fun b f=>h b fun a w g=>f a w g
theorem z1m{i:Nat}{b:Oper}{v:Value}{n:Nat}{L:Array Bool}{a:Act}{w:World}(d:Option Tmp)(f:ops[i]?=some b)(hd:b.dst=d)
  (g:Region.noSelect ops=true) (j:Region.free md ops L i=true) (k:(Region.ready md ops L).contains i=true) (l:q4p md ops L i c (z9W md ops i ops.size L)=true) (e:i≠c)
  (m:∀ c a w,Q (.panic c) (a.put d v) w->Q (.panic c) a w) (o:YieldsIf P ops S b v a) (p:S w)
  (h:z3E P md ops Q S c n (L.setIfInBounds i true) (a.put d v) w):z3E P md ops Q S c (n+1) L a w:=by
 subst hd;exact q4e f g j k l e m o p h
theorem z6w{i:Nat}{b:Oper}{v:Value}{n:Nat}{L:Array Bool}{a:Act}{w:World}(d:Option Tmp)(e:ops[i]?=some b)(hd:b.dst=d)
  (f:Region.noSelect ops=true) (g:Region.free md ops L i=true) (j:(Region.ready md ops L).contains i=true)
  (k:∀ c a w,Q (.panic c) (a.put d v) w->Q (.panic c) a w) (l:Yields P ops b v a)
  (h:wpAny P md ops Q n (L.setIfInBounds i true) (a.put d v) w):wpAny P md ops Q (n+1) L a w:=by
 subst hd;exact wpAny_take e f g j k l h
theorem Y{b:Oper}{n:Nat}{L:Array Bool}{a:Act}{w:World}(i:Nat)(v:Value)(s:Tmp)(e:ops[i]?=some b)(hd:b.dst=some s)(f:S w)
  (g:∀ w,S w->(execOp a.eval b).run P w=.ok (.value v) w) (h:z3E P md ops Q S c n (L.setIfInBounds i true) (a.put (some s) v) w)
  (j:Region.wanted b (yielded ops a.tmps)=true:=by rfl) (k:Region.noSelect ops=true:=by kernel_rfl) (l:Region.free md ops L i=true:=by kernel_rfl) (m:(Region.ready md ops L).contains i=true:=by kernel_rfl) (o:q4p md ops L i c (z9W md ops i ops.size L)=true:=by kernel_rfl) (d:i≠c:=by decide)
  (p:∀ c a w,Q (.panic c) (a.put (some s) v) w->Q (.panic c) a w:=by exact fun _ _ _ h=>h):z3E P md ops Q S c (n+1) L a w:=z1m (some s) e hd k l m o d p (Or.inl ⟨j,g⟩) f h
theorem X{b:Oper}{n:Nat}{L:Array Bool}{a:Act}{w:World}(i:Nat)(v:Value)(s:Tmp)(d:ops[i]?=some b)(hd:b.dst=some s)
  (e:∀ w,(execOp a.eval b).run P w=.ok (.value v) w) (h:wpAny P md ops Q n (L.setIfInBounds i true) (a.put (some s) v) w)
  (f:Region.wanted b (yielded ops a.tmps)=true:=by rfl) (g:Region.noSelect ops=true:=by kernel_rfl) (j:Region.free md ops L i=true:=by kernel_rfl) (k:(Region.ready md ops L).contains i=true:=by kernel_rfl)
  (l:∀ c a w,Q (.panic c) (a.put (some s) v) w->Q (.panic c) a w:=by exact fun _ _ _ h=>h):wpAny P md ops Q (n+1) L a w:=z6w (some s) d hd g j k l (Or.inl ⟨f,e⟩) h
theorem pp{l:List Value}{d:List Deferred}{k:Nat}{v:Value}:Act.put ⟨l.toArray,d⟩ (some k) v=⟨(l.set k v).toArray,d⟩:=by simp[Act.put]
theorem pb{α:Type}{a b:α}{l:List α}:(a :: l).set 0 b=b :: l:=rfl
theorem pc{α:Type}{a b:α}{l:List α}{n:Nat}:(a :: l).set (n+1) b=a :: l.set n b:=rfl
theorem z9D{i:Nat}{o:Oper}{n:Nat}{L:Array Bool}{a:Act}{w:World}(c:Region.ready md ops L=[i])(d:ops[i]?=some o)(e:o.guard=none)
  (h:∀ b:Act->World->Prop,(∀ a w,wpAny P md ops Q n (L.setIfInBounds i true) a w->b a w)->Oper.wp P o a w b Q):wpAny P md ops Q (n+1) L a w:=
 q7w c d fun b f=>by
  have g:Region.wanted o (yielded ops a.tmps)=true:=by simp[Region.wanted,e]
  rw[if_pos g];exact h b f
theorem z3J{id:Nat}{a:Act}{w:World}(b:P.follows .mixedOrders=true)(h:z3E P .any ops Q S c ops.size (Array.replicate ops.size false) a w.drew):(Code.region id ops true).wp P Q a w:=
 wp_region_any b (q0y _ _ _ _ h)
end
end O
namespace O
open Go
section
variable {P:Program} {md:Region.Mode} {ops:Array Oper} {Q:Exit->Act->World->Prop} {S:World->Prop} {c:Nat}
theorem q7B{o:Oper}{n:Nat}{L:Array Bool}{a:Act}{w:World}(d:Region.ready md ops L=[c])(e:ops[c]?=some o)(f:o.guard=none)
  (h:∀ b:Act->World->Prop,(∀ a w,wpAny P md ops Q n (L.setIfInBounds c true) a w->b a w)->Oper.wp P o a w b Q):z3E P md ops Q S c (n+1) L a w:=
 z5H d e fun b g=>by
  have i:Region.wanted o (yielded ops a.tmps)=true:=by simp[Region.wanted,f]
  rw[if_pos i];exact h b g
end
end O
namespace O
open Go
section
variable {P:Program} {md:Region.Mode} {ops:Array Oper} {Q:Exit->Act->World->Prop} {S:World->Prop} {c:Nat}
theorem q1M{i:Nat}{p:Oper}{v:Value}(z:ops[i]?=some p)(g:∀ (j:Nat) (o:Oper) cs b,ops[j]?=some o->o.op≠.select cs b)
  (K:∀ c a w,Q (.panic c) (a.put p.dst v) w->Q (.panic c) a w) (s:i≠c) :
  ∀ (n:Nat) (L:Array Bool) (a:Act) (w:World),
   (∀ j q,ops[j]?=some q->j≠i->L.getD j true=false->(∀ e∈q.after,Region.binds md e=true->e.on≠i)->p.apart ops q=true) ->
   i∈Region.ready md ops L->Yields P ops p v a->S w ->
   z3E P md ops Q S c n (L.setIfInBounds i true) (a.put p.dst v) w->z3E P md ops Q S c (n+1) L a w:=by
 intro n
 induction n with
 | zero =>
  intro L a w _ l A C H;refine⟨fun h=>(by rw[h]at l;cases l),fun j B=>?_⟩
  by_cases d:j=i
  ·subst d;exact A.wpOp z ⟨fun e=>absurd e s,fun _=>⟨C,H⟩⟩
  ·have:=ready_mono B d;rw[H.1]at this;cases this
 | succ n ih =>
  intro L a w hfree l A C H;refine⟨fun h=>(by rw[h]at l;cases l),fun j B=>?_⟩
  by_cases d:j=i
  ·subst d;exact A.wpOp z ⟨fun e=>absurd e s,fun _=>⟨C,H⟩⟩
  ·have N:=H.2 j (ready_mono B d);obtain⟨m,q,r,hall⟩:=mem_ready.1 B
   have t:∀ e∈q.after,Region.binds md e=true->e.on≠i:=fun e R T D=>by
    have h1:=hall e R T;have h0:=(mem_ready.1 l).1;rw[D]at h1
    rcases Nat.lt_or_ge i L.size with E | E
    ·simp[E]at h0 h1;rw[h0]at h1;cases h1
    ·simp[Array.getElem?_eq_none E]at h1
   have f:∀ k ok,ops[k]?=some ok->k≠i->(L.setIfInBounds j true).getD k true=false ->
     (∀ e∈ok.after,Region.binds md e=true->e.on≠i)->p.apart ops ok=true:=fun k ok U F u G=>by
    refine hfree k ok U F ?_ G
    by_cases x:j=k
    ·subst x;exact m
    ·rw[getD_set_ne true x]at u;exact u
   refine wpOp_mono (fun M w' h3=>⟨fun e=>?_,fun e=>?_⟩) (wpOp_put r (hfree j q r d m t) (fun cs b=>g i p cs b z) (fun cs b=>g j q cs b r) K A N)
   ·refine wpAny_first z g K n (L.setIfInBounds j true) M w' f (ready_mono l (Ne.symm d)) h3.1 ?_;rw[Array.setIfInBounds_comm _ _ d];exact h3.2.1 e
   ·obtain⟨y,V⟩:=h3.2.2 e;refine⟨y,ih (L.setIfInBounds j true) M w' f (ready_mono l (Ne.symm d)) h3.1 y ?_⟩;rw[Array.setIfInBounds_comm _ _ d];exact V
theorem z8K{i:Nat}{b:Oper}{v:Value}{n:Nat}{L:Array Bool}{a:Act}{w:World}(d:Option Tmp)(e:ops[i]?=some b)(hd:b.dst=d)
  (f:Region.noSelect ops=true) (g:Region.free md ops L i=true) (j:(Region.ready md ops L).contains i=true)
  (k:∀ c a w,Q (.panic c) (a.put d v) w->Q (.panic c) a w) (l:YieldsIf P ops S b v a) (m:S w)
  (h:wpAnyH P md ops Q S n (L.setIfInBounds i true) (a.put d v) w):wpAnyH P md ops Q S (n+1) L a w:=by
 subst hd;exact wpAnyH_take e f g j k l m h
theorem Z{b:Oper}{n:Nat}{L:Array Bool}{a:Act}{w:World}(i:Nat)(v:Value)(s:Tmp)(d:ops[i]?=some b)(hd:b.dst=some s)(e:S w)
  (f:∀ w,S w->(execOp a.eval b).run P w=.ok (.value v) w) (h:wpAnyH P md ops Q S n (L.setIfInBounds i true) (a.put (some s) v) w)
  (g:Region.wanted b (yielded ops a.tmps)=true:=by rfl) (j:Region.noSelect ops=true:=by kernel_rfl) (k:Region.free md ops L i=true:=by kernel_rfl) (l:(Region.ready md ops L).contains i=true:=by kernel_rfl)
  (m:∀ c a w,Q (.panic c) (a.put (some s) v) w->Q (.panic c) a w:=by exact fun _ _ _ h=>h):wpAnyH P md ops Q S (n+1) L a w:=z8K (some s) d hd j k l m (Or.inl ⟨g,f⟩) e h
theorem G{b:Oper}{n:Nat}{L:Array Bool}{a:Act}{w:World}(i:Nat)(v:Value)(s:Tmp)(d:ops[i]?=some b)(hd:b.dst=some s)(e:S w)
  (h:wpAnyH P md ops Q S n (L.setIfInBounds i true) (a.put (some s) v) w)
  (f:∀ w,(execOp a.eval b).run P w=.ok (.value v) w:=by intro _;go_simp)
  (g:Region.wanted b (yielded ops a.tmps)=true:=by rfl) (j:Region.noSelect ops=true:=by kernel_rfl) (k:Region.free md ops L i=true:=by kernel_rfl) (l:(Region.ready md ops L).contains i=true:=by kernel_rfl)
  (m:∀ c a w,Q (.panic c) (a.put (some s) v) w->Q (.panic c) a w:=by exact fun _ _ _ h=>h):wpAnyH P md ops Q S (n+1) L a w:=z8K (some s) d hd j k l m (Or.inl ⟨g,fun w _=>f w⟩) e h
theorem U{b:Oper}{n:Nat}{L:Array Bool}{a:Act}{w:World}(i:Nat)(s:Tmp)(d:ops[i]?=some b)(hd:b.dst=some s)(e:S w)
  (h:wpAnyH P md ops Q S n (L.setIfInBounds i true) (a.put (some s) undef) w)
  (f:Region.wanted b (yielded ops a.tmps)=false:=by rfl) (g:Region.noSelect ops=true:=by kernel_rfl) (j:Region.free md ops L i=true:=by kernel_rfl) (k:(Region.ready md ops L).contains i=true:=by kernel_rfl)
  (l:∀ c a w,Q (.panic c) (a.put (some s) undef) w->Q (.panic c) a w:=by exact fun _ _ _ h=>h):wpAnyH P md ops Q S (n+1) L a w:=z8K (some s) d hd g j k l (Or.inr ⟨f,rfl⟩) e h
theorem z1p{i:Nat}{o:Oper}{n:Nat}{L:Array Bool}{a:Act}{w:World}(c:Region.ready md ops L=[i])(e:ops[i]?=some o)(f:o.guard=none)
  (h:∀ b:Act->World->Prop,(∀ a w,S w->wpAnyH P md ops Q S n (L.setIfInBounds i true) a w->b a w)->Oper.wp P o a w b Q):wpAnyH P md ops Q S (n+1) L a w:=by
 refine⟨fun h0=>(by rw[c]at h0;cases h0),fun j d=>?_⟩
 rw[c,List.mem_singleton]at d;subst d;refine wpOp_step e fun b g=>?_;rw[if_pos (show Region.wanted o (yielded ops a.tmps)=true by simp[Region.wanted,f])]
 exact h b fun a w k l=>g a w ⟨k,l⟩
theorem z9R{i j:Nat}{d e:Oper}{n:Nat}{L:Array Bool}{a:Act}{w:World}(q:Region.ready md ops L=[i,j])(f:ops[i]?=some d)(g:d.guard=none)(h:ops[j]?=some e)(l:e.guard=none)
  (h1:∀ b:Act->World->Prop,(∀ a w,S w->wpAnyH P md ops Q S n (L.setIfInBounds i true) a w->b a w)->Oper.wp P d a w b Q)
  (h2:∀ b:Act->World->Prop,(∀ a w,S w->wpAnyH P md ops Q S n (L.setIfInBounds j true) a w->b a w)->Oper.wp P e a w b Q):wpAnyH P md ops Q S (n+1) L a w:=by
 refine⟨fun h0=>(by rw[q]at h0;cases h0),fun k c=>?_⟩
 rw[q]at c
 rcases List.mem_cons.1 c with rfl | c
 ·refine wpOp_step f fun b m=>?_;rw[if_pos (show Region.wanted d (yielded ops a.tmps)=true by simp[Region.wanted,g])]
  exact h1 b fun a w o p=>m a w ⟨o,p⟩
 ·rw[List.mem_singleton]at c;subst c;refine wpOp_step h fun b m=>?_;rw[if_pos (show Region.wanted e (yielded ops a.tmps)=true by simp[Region.wanted,l])]
  exact h2 b fun a w o p=>m a w ⟨o,p⟩
theorem z3z{i:Nat}{o:Oper}{n:Nat}{L:Array Bool}{a:Act}{w:World}(d:Region.ready md ops L=[i])(e:ops[i]?=some o)(f:o.guard=none)
  (ty:TypeId) (x y:Operand) (c:o.op=.store ty x y) (hd:o.dst=none) (b off:Nat) (cells:Array Value) (g:a.eval x=J2 (some ⟨b,off,none⟩)) (j:a.eval y=J4 cells)
  (k:w.there b off cells.size) (l:(P.info? ty).map (·.size)=some cells.size) (h1:cells.all (·.oneCell')=true) (m:S (w.setCells b off cells.toList))
  (h:wpAnyH P md ops Q S n (L.setIfInBounds i true) a (w.setCells b off cells.toList)):wpAnyH P md ops Q S (n+1) L a w:=
 z1p d e f fun _ p=>wp_store_mid ty x y c b off cells g j k l h1 (p _ _ m (by rw[hd];exact h))
theorem z0R{i:Nat}{b:Oper}{v:Value}{n:Nat}{L:Array Bool}{a:Act}{w:World}(d:Option Tmp)(f:ops[i]?=some b)(hd:b.dst=d)
  (g:Region.noSelect ops=true) (j:Region.free md ops L i=true) (k:(Region.ready md ops L).contains i=true) (e:i≠c)
  (l:∀ c a w,Q (.panic c) (a.put d v) w->Q (.panic c) a w) (m:Yields P ops b v a) (o:S w)
  (h:z3E P md ops Q S c n (L.setIfInBounds i true) (a.put d v) w):z3E P md ops Q S c (n+1) L a w:=by
 subst hd;exact q1M f (Region.noSelect_spec g) l e n L a w (Region.free_spec f j) (by simpa using k) m o h
end
end O
section
open Go.RowKit
theorem z4e(d:Int)(w:World):Calls prog 138 #[J I d] w fun e w'=>e=.returned (J3 (inA d))/\w=w':=z2f d w
def VAt(w:World)(y:Nat)(x:Vd):Prop:=w.heap[y]?=some (J5 #[J I x.tok,J I x.sh,J I x.lost,J3 x.jail,J3 x.dead] 26)
theorem VAt.later{w w':World}{y B:Nat}{x:Vd}(h:VAt w y x)(a:Below B w w')(b:y<B):VAt w' y x:=(a.block y b).trans h
theorem VAt.lt{w:World}{y:Nat}{x:Vd}(h:VAt w y x):y<w.heap.size:=(Array.getElem?_eq_some_iff.1 h).1
theorem VAt.cells{w:World}{y:Nat}{x:Vd}(h:VAt w y x):w.cell? ⟨y,0,none⟩=some (J I x.tok)/\w.cell? ⟨y,1,none⟩=some (J I x.sh)/\w.cell? ⟨y,2,none⟩=some (J I x.lost)/\w.cell? ⟨y,3,none⟩=some (J3 x.jail)/\w.cell? ⟨y,4,none⟩=some (J3 x.dead):=by
  unfold VAt at h
  simp[World.cell?,h]
theorem q8j(r:Nat->Int)(k:Nat)(a:k<6):(q9Z r)[k]?=some (J I (r k)):=by
  rcases (show k=0∨k=1∨k=2∨k=3∨k=4∨k=5 by omega) with rfl | rfl | rfl | rfl | rfl | rfl <;> rfl
theorem q5p(w:World)(r:Nat->Int)(e:TypeId)(k:Nat)(a:k<6):(w.alloc (J5 #[J I (r 0),J I (r 1),J I (r 2),J I (r 3),J I (r 4),J I (r 5)] e)).cell? ⟨w.heap.size,k,none⟩=some (J I (r k)):=by
  rw[World.cell?_alloc_at _ _ _ _ rfl];exact q8j r k a
theorem q5F{S:Nat->Nat->Int}{v j:Nat}(b:j<4)(a:inA (S j v)=false):z2F S v 4=false:=by
  rcases (show j=0∨j=1∨j=2∨j=3 by omega) with rfl | rfl | rfl | rfl <;> simp[z2F,a]
theorem z4O(s:St)(ao:Option Addr)(sb so c:Nat)(w:World)(hW:z1R w ao sb so s.W) :
    Calls prog 91 #[J4 (stC s (J1 ao s.W.length c))] w fun e w'=>e=.returned (J3 (z0j s))/\Bl w w':=by
  have S0:=SAt.new w (stC s (J1 ao s.W.length c));have T:Hid (Bl w (w.alloc (J5 (stC s (J1 ao s.W.length c)) 32))):=znw w _;have HW:=J6 hW;have e1:=hW.len;have G:=hW.adr;have U:=z0T s.b.f0 s.b.f1 s.b.f2 s.b.f3 s.b.bo s.b.wa s.b.bu;have HG:Hid (z0j s=(z0v s.b.f0 s.b.f1 s.b.f2 s.b.f3 s.b.bo s.b.wa s.b.bu && decide (1<=s.next) && decide (s.next<=1125899906842624) && decide (s.W.length<=60) && wOk s.next 0 s.W && pvs s 6 && bal s)):=rfl
  generalize z0v s.b.f0 s.b.f1 s.b.f2 s.b.f3 s.b.bo s.b.wa s.b.bu=t1 at *;clear hW
  go_enter func91,ntmps91
  go_upto_region 1 with fail
  generalize w.alloc (J5 (stC s (J1 ao s.W.length c)) 32)=w0 at *;obtain⟨x0,x1,x2,x3,x4,x5,x6,x7,x8⟩:=z0g S0
  go_upto_region 4 with (go_at_call 137;refine (U _).mono ?_;rintro e w1⟨rfl,h1⟩;have N:=S0.later h1 S0.lt;have P:Hid (Bl w w1):=zbt T.out h1;obtain⟨y0,y1,y2,y3,y4,y5,y6,y7,y8⟩:=z0g N;clear x0 x1 x2 x3 x4 x5 x6 x7 x8 y0 y1 y2 y3 y4 y5 y6 h1 S0 T)
  all_goals first
    | (go_ret;refine⟨?_,P.out⟩;rw[HG.out];congr 1;congr 1;first | (simp_all;done) | (simp_all;omega) | (simp_all;intros;omega))
    | skip
  have e2:s.W.length<=60:=by omega
  have X:z0j s=(wOk s.next 0 s.W && pvs s 6 && bal s):=by rw[HG.out];simp_all
  have n:=J6 X;have o:w.heap.size<w1.heap.size:=N.lt;have e6:1<=s.next/\s.next<=1125899906842624:=by omega
  clear X HG U y7 y8;generalize decide (s.next<1)=b1
  generalize decide (1125899906842624<s.next)=b2
  generalize decide (60<(s.W.length:Int))=b3;apply wp_region_lit
  iterate 3 go_step
  refine wpList_load_mid rfl 27 _ rfl _ 7 rfl _ _ (z5J N) underlying27 rfl (by rw[q0s];rfl) ?_
  go_wp2_with fail
  go_loopw [3,4,36] (fun s3 s4 i wl=>∃ k:Nat,k<=6/\i=.int .i64 (k:Int)/\s3=.int .i64 (z5c s.V k)/\s4=.int .i64 (z2l s.V k)/\Hid (pvs s k=true/\Bl w1 wl)) (fun _ _ i _=>(6 - intOf i).toNat)
  case atStart=>exact⟨0,by omega,rfl,rfl,rfl,rfl,Below.refl _ _⟩
  case round =>
    obtain⟨k,hk,rfl,rfl,rfl,z⟩:=hrel
    rename World=>w2
    have p:w1.heap.size<=w2.heap.size:=z.out.2.size
    by_cases A:k<6
    · have S2:=N.later z.out.2 o
      have b5:=fun w=>ixV w s.V k A;clear N
      go_upto_region 8 with fail
      have Y:VAt (w2.alloc (J5 #[.int .i64 (s.V k).tok,.int .i64 (s.V k).sh,.int .i64 (s.V k).lost,J3 (s.V k).jail,J3 (s.V k).dead] 26)) w2.heap.size (s.V k):=heap_alloc_new _ _;have Z:=S2.alloc (J5 #[.int .i64 (s.V k).tok,.int .i64 (s.V k).sh,.int .i64 (s.V k).lost,J3 (s.V k).jail,J3 (s.V k).dead] 26);have b6:=J6 (P.out.trans ((z.out.2.alloc p (J5 #[.int .i64 (s.V k).tok,.int .i64 (s.V k).sh,.int .i64 (s.V k).lost,J3 (s.V k).jail,J3 (s.V k).dead] 26)).mono (Nat.le_of_lt o)));have HP:=J6 z.out.1;have b7:=J6 (z.out.2.alloc p (J5 #[.int .i64 (s.V k).tok,.int .i64 (s.V k).sh,.int .i64 (s.V k).lost,J3 (s.V k).jail,J3 (s.V k).dead] 26));generalize w2.alloc (J5 #[.int .i64 (s.V k).tok,.int .i64 (s.V k).sh,.int .i64 (s.V k).lost,J3 (s.V k).jail,J3 (s.V k).dead] 26)=w3 at *;have e3:w.heap.size<w2.heap.size:=by omega
      clear S2 z b5;have a0:=Y.lt;have e7:=Z.lt;apply wp_region_lit
      iterate 3 go_step
      refine wpList_load_mid rfl 29 _ rfl _ 37 rfl _ _ (z5T Z) underlying29 rfl (by rw[q2G];rfl) ?_
      go_wp2_with fail
      go_loopw [7,42] (fun s7 i wl=>∃ j:Nat,j<=4/\i=.int .i64 (j:Int)/\s7=.int .i64 (psh s.S k j)/\Hid (z2F s.S k j=true/\Bl w3 wl)) (fun _ i _=>(4 - intOf i).toNat)
      case atStart=>exact⟨0,by omega,rfl,rfl,rfl,Below.refl _ _⟩
      case round =>
        obtain⟨j,hj,rfl,rfl,u⟩:=hrel
        rename World=>w4
        have a1:w3.heap.size<=w4.heap.size:=u.out.2.size;have l:=J6 (b6.out.trans (u.out.2.mono (Nat.le_of_lt (Nat.lt_of_lt_of_le (Nat.lt_of_lt_of_le o p) (Nat.le_of_lt a0)))));have a2:w.heap.size<=w4.heap.size:=l.out.size
        by_cases a3:j<4
        · have e4:=fun w=>ixS w s.S j a3
          have e8:=q5p w4 (s.S j) 28 k A;have e9:(k:Int)<6:=by omega
          have b9:=z4q (S:=s.S) (v:=k) j u.out.1;have m:=z4e (s.S j k)
          by_cases f:inA (s.S j k)=true
          · rw[f]at m
            have c8:Hid (z2F s.S k (j+1)=true):=by show (z2F s.S k j && inA (s.S j k))=true;rw[u.out.1,f];rfl
            rw[z1n]at f;have c9:Hid (psh s.S k (j+1)=psh s.S k j+s.S j k):=rfl;clear Z Y
            go_wp2_with (go_at_call 138;refine (m _).mono ?_;rintro e w5⟨rfl,rfl⟩)
            go_roundw
            case rel=>exact⟨j+1,by omega,by go_num,by rw[c9.out],c8.out,u.out.2.alloc a1 _⟩
            case measure=>simp[intOf];omega
          · simp only[Bool.not_eq_true]at f
            rw[f]at m;have a4:z6t s k=false:=by unfold z6t q0d;rw[q5F a3 f];simp
            have q:=J6 (show z0j s=false by rw[n.out,z9Z A a4];simp)
            clear f a4 Z Y
            go_wp2_with (go_at_call 138;refine (m _).mono ?_;rintro e w5⟨rfl,rfl⟩)
            go_ret;exact⟨by rw[q.out];rfl,l.out.alloc a2 _⟩
        · obtain rfl:j=4:=by omega
          obtain⟨c0,c1,c2,c3,c4⟩:=(Y.later u.out.2 a0).cells;have b9:=z4q (S:=s.S) (v:=k) 4 u.out.1;have f4:=z4K (V:=s.V) k (fun i hi=>(z1G (by have h:=z6h HP.out hi;unfold z6t at h;rw[Bool.and_eq_true]at h;exact h.1)).1)
          have f5:=z3M (V:=s.V) k (fun i hi=>(z1G (by have h:=z6h HP.out hi;unfold z6t at h;rw[Bool.and_eq_true]at h;exact h.1)).2.2)
          have a5:z6t s k=(inA (s.V k).tok && inA (s.V k).sh && inA (s.V k).lost && !(decide (0<(s.V k).tok) && decide ((s.V k).sh=0)) && ((s.V k).jail || !(s.V k).dead) && decide (psh s.S k 4=(s.V k).sh)):=by unfold z6t vOk;rw[q0o u.out.1]
          have H:=J6 a5;have d0:Hid (z5c s.V (k+1)=z5c s.V k+(s.V k).tok):=rfl;have d1:Hid (z2l s.V (k+1)=z2l s.V k+(s.V k).lost):=rfl;have d2:Hid (pvs s (k+1)=z6t s k):=by show (pvs s k && z6t s k)=z6t s k;rw[HP.out,Bool.true_and]
          have g:Hid (z6t s k=false->z0j s=false):=fun h=>by rw[n.out,z9Z A h];simp
          have d3:=J6 (b7.out.trans (u.out.2.mono (by omega)))
          clear a5 Z Y u HP n;generalize psh s.S k 4=ps at *;generalize (s.V k).tok=xt at *;generalize (s.V k).sh=xs at *;generalize (s.V k).lost=xl at *;generalize (s.V k).jail=xj at *;generalize (s.V k).dead=xd at *;have m:=z4e xt;have R:=z4e xs;have i3:=z4e xl
          by_cases B:inA xt=true
          · by_cases K:inA xs=true
            · by_cases a:inA xl=true
              · have a6:z6t s k=(!(decide (0<xt) && decide (xs=0)) && (xj || !xd) && decide (ps=xs)):=by rw[H.out,B,K,a];simp
                have a7:=J6 a6;rw[B]at m;rw[K]at R;rw[a]at i3;rw[z1n]at B K a;clear a6 H
                go_wp2_with (first
                  | (go_at_call 138;have _m:=m2;refine (i3 _).mono ?_;rintro e w7⟨rfl,rfl⟩)
                  | (go_at_call 138;have _m:=m1;refine (R _).mono ?_;rintro e w6⟨rfl,rfl⟩;have m2:True:=trivial)
                  | (go_at_call 138;refine (m _).mono ?_;rintro e w5⟨rfl,rfl⟩;have m1:True:=trivial))
                all_goals first
                  | (go_ret
                     have hv:z6t s k=false:=by rw[a7.out];first | (simp_all;done) | (simp_all;omega)
                     exact⟨by rw[g.out hv];rfl,l.out⟩)
                  | (have hv:pvs s (k+1)=true:=by rw[d2.out,a7.out];first | (simp_all;done) | (simp_all;omega)
                     have f6:=d0.out;have f7:=d1.out;refine⟨⟨k+1,by omega,by go_num,?_,?_,hv,d3.out⟩,by simp[intOf];omega⟩
                     · congr 1;omega
                     · congr 1;omega)
              · simp only[Bool.not_eq_true]at a
                rw[a]at i3;rw[B]at m;rw[K]at R;have q:=J6 (g.out (by rw[H.out,a];simp))
                clear g H a
                go_wp2_with (first
                  | (go_at_call 138;have _m:=m2;refine (i3 _).mono ?_;rintro e w7⟨rfl,rfl⟩)
                  | (go_at_call 138;have _m:=m1;refine (R _).mono ?_;rintro e w6⟨rfl,rfl⟩;have m2:True:=trivial)
                  | (go_at_call 138;refine (m _).mono ?_;rintro e w5⟨rfl,rfl⟩;have m1:True:=trivial))
                go_ret;exact⟨by rw[q.out];rfl,l.out⟩
            · simp only[Bool.not_eq_true]at K
              rw[K]at R;rw[B]at m;have q:=J6 (g.out (by rw[H.out,K];simp))
              clear g H K
              go_wp2_with (first
                | (go_at_call 138;have _m:=m1;refine (R _).mono ?_;rintro e w6⟨rfl,rfl⟩)
                | (go_at_call 138;refine (m _).mono ?_;rintro e w5⟨rfl,rfl⟩;have m1:True:=trivial))
              go_ret;exact⟨by rw[q.out];rfl,l.out⟩
          · simp only[Bool.not_eq_true]at B
            rw[B]at m;have q:=J6 (g.out (by rw[H.out,B];simp))
            clear g H B
            go_wp2_with (go_at_call 138;refine (m _).mono ?_;rintro e w5⟨rfl,rfl⟩)
            go_ret;exact⟨by rw[q.out];rfl,l.out⟩
    · obtain rfl:k=6:=by omega
      have d4:=J6 (P.out.trans (z.out.2.mono (Nat.le_of_lt o)));have S5:=N.later z.out.2 o;have C:Hid (z0j s=(wOk s.next 0 s.W && bal s)):=by have:=z.out.1;rw[n.out,this];simp[Hid]
      obtain⟨_,_,_,_,_,_,_,x7,x8⟩:=z0g S5;have d5:=J6 S5;have r:=S5.lt;clear N S5 x8 n
      go_wp2_with fail
      clear x7
      go_loopw [10,11,108] (fun d6 d7 i wl=>∃ (k:Nat) (last:Int),k<=s.W.length/\i=.int .i64 (k:Int)/\d6=.int .i64 (z1N (s.W.take k))/\d7=.int .i64 last/\Hid (wOk s.next 0 s.W=wOk s.next last (s.W.drop k)/\(∀ x∈s.W.take k,inA x.amt=true)/\Bl w2 wl)) (fun _ _ i _=>s.W.length - (intOf i).toNat)
      case atStart=>exact⟨0,0,by omega,rfl,rfl,rfl,rfl,by simp,Below.refl _ _⟩
      case round =>
        obtain⟨k,last,hk,rfl,rfl,rfl,D⟩:=hrel;have L:w2.heap.size<=wr.heap.size:=D.out.2.2.size;have t:=J6 (d4.out.trans (D.out.2.2.mono (Nat.le_of_lt r)));have M:w.heap.size<=wr.heap.size:=t.out.size;have e5:w.heap.size<wr.heap.size:=Nat.lt_of_lt_of_le r L;obtain⟨_,_,_,_,y4,y5,y6,_,y8⟩:=z0g (d5.out.later D.out.2.2 r);have d8:=z4L D.out.2.1
        by_cases Q:k<s.W.length
        · obtain⟨x,hx,hd⟩:=drop_at Q
          obtain⟨c0,c1,c2,c3,c4,c5,c6,c7⟩:=(HW.out.over t.out).cell k x hx;have HE:Hid (wOk s.next 0 s.W=(q1W last s.next x && wOk s.next x.num (s.W.drop (k+1)))):=by have:=D.out.1;rw[hd]at this;exact this
          have HM:=J6 (z7Z hx);rw[List.length_take,Nat.min_eq_left hk]at d8
          have HT:Hid (inA x.amt=true->∀ y∈s.W.take (k+1),inA y.amt=true):=fun h y hy=>by
            have ex:s.W[k]=x:=by simpa [List.getElem?_eq_getElem Q] using hx
            rw[List.take_succ_eq_append_getElem Q,List.mem_append,List.mem_singleton,ex]at hy
            rcases hy with hy | rfl
            · exact D.out.2.1 y hy
            · exact h
          have d9:=J6 D.out.2.2;obtain rfl:=G (by omega)
          have j3:=z4e x.amt;have E:Hid (q1W last s.next x=(decide (last<x.num) && decide (x.num<s.next) && isD x.d && isV x.v && inA x.amt && decide (0<=x.hei) && decide (0<=x.due))):=rfl
          have a8:Hid (isD x.d=decide (0<=x.d/\x.d<4)):=rfl;have a9:Hid (isV x.v=decide (0<=x.v/\x.v<6)):=rfl;clear G hd hx D y4 y5 y6
          by_cases a:inA x.amt=true
          · rw[a]at j3
            have e0:=J6 (HT.out a);have ho:=E.out;rw[a]at ho;have b4:=J6 ho;rw[z1n]at a;clear ho E HT
            go_wp2_with (go_at_call 138;refine (j3 _).mono ?_;rintro e w7⟨rfl,rfl⟩)
            all_goals first
              | (go_ret
                 have F:z0j s=false:=by rw[C.out,HE.out,b4.out,a8.out,a9.out];first | (simp_all;done) | (simp_all;omega) | (simp_all;intros;omega)
                 exact⟨by rw[F];rfl,t.out.alloc M _⟩)
              | (have F:wOk s.next 0 s.W=wOk s.next x.num (s.W.drop (k+1)):=by rw[HE.out,b4.out,a8.out,a9.out];first | (simp_all;done) | (simp_all;omega)
                 have hm:=HM.out;have hs:z1N (s.W.take k)+x.amt=z1N (s.W.take (k+1)):=by omega
                 refine⟨?_,by simp[intOf];omega⟩
                 (repeat apply Exists.intro)
                 exact⟨⟨k+1,x.num,by omega,by go_num,by rw[hs],rfl,F,e0.out,d9.out.alloc L _⟩,rfl⟩)
          · simp only[Bool.not_eq_true]at a
            rw[a]at j3;have F:z0j s=false:=by rw[C.out,HE.out,E.out,a];simp
            have q:=J6 F;clear F HE E a HT C
            go_wp2_with (go_at_call 138;refine (j3 _).mono ?_;rintro e w7⟨rfl,rfl⟩)
            all_goals (go_ret;exact⟨by rw[q.out];rfl,t.out.alloc M _⟩)
        · have F:z0j s=bal s:=by rw[C.out,D.out.1,List.drop_eq_nil_of_le (by omega)];simp[wOk]
          have q:Hid (z0j s=(decide (z5c s.V 6=s.b.bo) && decide (z1N (s.W.take k)=s.b.wa) && decide (z2l s.V 6=s.b.bu))):=by rw[F,List.take_of_length_le (by omega)];exact rfl
          clear F y8;generalize z5c s.V 6=pt at *;generalize z2l s.V 6=pl at *;generalize z1N (s.W.take k)=pa at *
          go_wp2_with fail
          all_goals (go_ret;refine⟨?_,t.out⟩;rw[q.out];congr 1;congr 1;first | (simp_all;done) | (simp_all;rfl))
end
end Go.Proofs.YtjghbciepinofaaGreat
