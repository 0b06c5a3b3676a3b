/- Parts of the proof. -/
import Derived.Test.YtjghbciepinofaaGreatPL
import Derived.Test.YtjghbciepinofaaGreatPK39
import Derived.Deep.RegionLaw
import Derived.Laws.OwnMore
import Derived.Laws.BytesArg
import Derived.Deep.SlicePairs
set_option maxRecDepth 100000
set_option maxHeartbeats 16000000
namespace Go.Proofs.YtjghbciepinofaaGreat
open Go.Proofs.Tryz
open Value renaming int->J,slice->J1,pointer->J2,bool->J3,agg->J4
open IntKind renaming i64->I
open Obj renaming cells->J5
namespace Ln
open Go.RowKit
def LVX(c a b:Nat)(d:Line)(B:Nat)(w:World)(x:Line)(v:Value):Prop:=
 ∃ sa da cs cd sb so db dO,v=J4 #[J1 sa x.S.length cs,J1 da x.D.length cd,J I x.g,J3 x.cl]/\LAt w x sa da cs cd sb so db dO/\(0<x.S.length->sb<B/\((sb=a/\x.S=d.S)∨c<=sb))/\(0<x.D.length->db<B/\((db=b/\x.D=d.D)∨c<=db))
def Ans(a b:Nat)(c:Line)(w:World)(r:Line×Int)(e:Ending)(w':World):Prop:=∃ v,e=.returned (.tuple #[v,J I r.2])/\LVX w.heap.size a b c w'.heap.size w' r.1 v/\Bl w w'
def FAt(w:World)(b:Nat)(v0 v1 v2 v3:Value):Prop:=w.heap[b]?=some (J5 #[v0,v1,v2,v3] 37)
section
variable {w w':World} {b B:Nat} {v0 v1 v2 v3:Value}
theorem FAt.later(h:FAt w b v0 v1 v2 v3)(a:Below B w w')(c:b<B):FAt w' b v0 v1 v2 v3:=(a.block b c).trans h
theorem FAt.new(w:World)(v0 v1 v2 v3:Value):FAt (w.alloc (J5 #[v0,v1,v2,v3] 37)) w.heap.size v0 v1 v2 v3:=heap_alloc_new _ _
theorem FAt.lt(h:FAt w b v0 v1 v2 v3):b<w.heap.size:=(Array.getElem?_eq_some_iff.1 h).1
theorem FAt.alloc(h:FAt w b v0 v1 v2 v3)(o:Obj):FAt (w.alloc o) b v0 v1 v2 v3:=(Below.heap_alloc _ _ _ h.lt).trans h
theorem FAt.other{c o:Nat}(h:FAt w b v0 v1 v2 v3)(a:b≠c)(v:Value):FAt (w.setCell ⟨c,o,none⟩ v) b v0 v1 v2 v3:=(Below.heap_setCell _ _ _ _ a).trans h
theorem FAt.facts(h:FAt w b v0 v1 v2 v3):(w.cell? ⟨b,0,none⟩=some v0/\w.cell? ⟨b,1,none⟩=some v1/\w.cell? ⟨b,2,none⟩=some v2/\w.cell? ⟨b,3,none⟩=some v3)/\(w.frozen? ⟨b,0,none⟩=false/\w.frozen? ⟨b,1,none⟩=false/\w.frozen? ⟨b,2,none⟩=false/\w.frozen? ⟨b,3,none⟩=false):=by
 unfold FAt at h
 simp[World.cell?,World.frozen?,h]
theorem FAt.z9e(h:FAt w b v0 v1 v2 v3)(v:Value):FAt (w.setCell ⟨b,0,none⟩ v) b v v1 v2 v3:=by
 unfold FAt at *
 simp[World.setCell,Array.getElem?_modify,h]
theorem FAt.z8J(h:FAt w b v0 v1 v2 v3)(v:Value):FAt (w.setCell ⟨b,1,none⟩ v) b v0 v v2 v3:=by
 unfold FAt at *
 simp[World.setCell,Array.getElem?_modify,h]
theorem FAt.q5C(h:FAt w b v0 v1 v2 v3)(v:Value):FAt (w.setCell ⟨b,2,none⟩ v) b v0 v1 v v3:=by
 unfold FAt at *
 simp[World.setCell,Array.getElem?_modify,h]
theorem FAt.q5U(h:FAt w b v0 v1 v2 v3)(v:Value):FAt (w.setCell ⟨b,3,none⟩ v) b v0 v1 v2 v:=by
 unfold FAt at *
 simp[World.setCell,Array.getElem?_modify,h]
end
def q1X(w:World)(b:Nat)(v0 v1 v2 v3:Value):World:=(((w.setCell ⟨b,0,none⟩ v0).setCell ⟨b,1,none⟩ v1).setCell ⟨b,2,none⟩ v2).setCell ⟨b,3,none⟩ v3
theorem q1Y{w:World}{b:Nat}{a u1 u2 c:Value}(h:FAt w b a u1 u2 c)(v0 v1 v2 v3:Value):FAt (q1X w b v0 v1 v2 v3) b v0 v1 v2 v3:=(((h.z9e v0).z8J v1).q5C v2).q5U v3
theorem z6n{B:Nat}{w0 w:World}{b:Nat}(v0 v1 v2 v3:Value)(h:Below B w0 w)(a:B<=b):Below B w0 (q1X w b v0 v1 v2 v3):=(((h.setCell a _).setCell a _).setCell a _).setCell a _
theorem z4J{w:World}{b:Nat}(v0 v1 v2 v3:Value){c:Nat}(a:c≠b):(q1X w b v0 v1 v2 v3).heap[c]?=w.heap[c]?:=by
 unfold q1X;rw[Below.heap_setCell _ _ _ _ a,Below.heap_setCell _ _ _ _ a,Below.heap_setCell _ _ _ _ a,Below.heap_setCell _ _ _ _ a]
theorem cell_of_heap{w w':World}{b:Nat}(h:w'.heap[b]?=w.heap[b]?)(o:Nat):w'.cell? ⟨b,o,none⟩=w.cell? ⟨b,o,none⟩:=World.cell?_of_block (w:=w) (a:=⟨b,o,none⟩) h
theorem z8Y{w:World}{b c o:Nat}{v:Value}(h:c≠b)(k:Nat):(w.setCell ⟨b,o,none⟩ v).cell? ⟨c,k,none⟩=w.cell? ⟨c,k,none⟩:=cell_of_heap (Below.heap_setCell _ _ _ _ h) k
theorem LAt.set{w w':World}{x:Line}{sa da:Option Addr}{cs cd sb so db dO:Nat}(h:LAt w x sa da cs cd sb so db dO)(b:0<x.S.length->w'.heap[sb]?=w.heap[sb]?)(c:0<x.D.length->w'.heap[db]?=w.heap[db]?):LAt w' x sa da cs cd sb so db dO:=
 ⟨h.hls,h.hld,h.hsa,h.hda,h.ncs,h.ncd,fun i a=>(cell_of_heap (b (by omega)) _).trans (h.PS i a),fun i a=>(cell_of_heap (c (by omega)) _).trans (h.PD i a)⟩
theorem z7f{f:Func}{p q:Tmp}(a:f.results=#[.cell p 37,.tmp q]){w wq:World}{b:Nat}{u u1 u2 y:Value}(R:FAt wq b u u1 u2 y)(H:Bl w wq)(z:w.heap.size<=b)(x:Line)(sa da:Option Addr)(cs cd sb so db dO:Nat)(L:LAt wq x sa da cs cd sb so db dO)
  (A:0<x.S.length->sb≠b) (B:0<x.D.length->db≠b) {c d:Nat} {j:Line} (k:0<x.S.length->(sb=c/\x.S=j.S)∨w.heap.size<=sb) (l:0<x.D.length->(db=d/\x.D=j.D)∨w.heap.size<=db) (s t:Nat) (C:s=x.S.length) (E:t=x.D.length) (i:Int) (r:Line×Int) (F:r=(x,i)) (act:Act)
  (G:act.tmps.getD p undef=J2 (some ⟨b,0,none⟩)) (K:act.tmps.getD q undef=J I i) (hd:act.defers=[]) :
  bodyPost prog f (fun e w'=>Ans c d j w r e w') Exit.ret act (q1X wq b (J1 sa s cs) (J1 da t cd) (J I x.g) (J3 x.cl)):=by
 subst F C E;have M:=q1Y R (J1 sa x.S.length cs) (J1 da x.D.length cd) (J I x.g) (J3 x.cl);have N:=z6n (J1 sa x.S.length cs) (J1 da x.D.length cd) (J I x.g) (J3 x.cl) H z;have m:LAt (q1X wq b (J1 sa x.S.length cs) (J1 da x.D.length cd) (J I x.g) (J3 x.cl)) x sa da cs cd sb so db dO:=L.set (fun h=>z4J _ _ _ _ (A h)) (fun h=>z4J _ _ _ _ (B h));generalize q1X wq b (J1 sa x.S.length cs) (J1 da x.D.length cd) (J I x.g) (J3 x.cl)=w9 at *;obtain⟨⟨c0,c1,c2,c3⟩,-⟩:=M.facts;have n:act.tmps[p]?.getD undef=J2 (some ⟨b,0,none⟩):=by simpa using G
 have o:act.tmps[q]?.getD undef=J I i:=by simpa using K
 exact bodyPost_ret (v:=.tuple #[J4 #[J1 sa x.S.length cs,J1 da x.D.length cd,J I x.g,J3 x.cl],J I i]) (by simp[results,a,go_sem,n,o,c0,c1,c2,c3]) hd ⟨_,rfl,⟨sa,da,cs,cd,sb,so,db,dO,rfl,m,fun h=>⟨m.ltS h,k h⟩,fun h=>⟨m.ltD h,l h⟩⟩,N⟩
theorem z8k(x:Line)(s:ByteArray)(due:Int) :
  (due<0/\(z5z x s due,z4M x due)=(x,2))∨(0<=due/\z8D x≠0/\(z5z x s due,z4M x due)=(x,z8D x))∨(0<=due/\z8D x=0/\400<=x.S.length/\(z5z x s due,z4M x due)=(x,6)) ∨
  (0<=due/\z8D x=0/\x.S.length<400/\(z5z x s due,z4M x due)=(⟨x.S ++ [s],x.D ++ [due],x.g,x.cl⟩,0)):=by
 unfold z5z
 by_cases h1:due<0
 ·left;simp[z4M,h1]
 right
 by_cases h2:z8D x=0
 ·right
  by_cases h3:400<=x.S.length
  ·left;refine⟨by omega,h2,h3,?_⟩;simp[z4M,h1,h2,h3]
  ·right;refine⟨by omega,h2,by omega,?_⟩;simp[z4M,h1,h2,h3]
 ·left;refine⟨by omega,h2,?_⟩;simp[z4M,h1,h2]
theorem FAt.new2(w:World)(o:Obj)(v0 v1 v2 v3:Value):FAt ((w.alloc o).alloc (J5 #[v0,v1,v2,v3] 37)) (w.heap.size+1) v0 v1 v2 v3:=by
 have:=FAt.new (w.alloc o) v0 v1 v2 v3
 rwa [show (w.alloc o).heap.size=w.heap.size+1 by simp]at this
structure q0I(w w0:World)(x:Line)(sa da:Option Addr)(cs cd sb so db dO:Nat):Prop where
 F1:FAt w0 w.heap.size (J1 sa x.S.length cs) (J1 da x.D.length cd) (J I x.g) (J3 x.cl)
 F2:FAt w0 (w.heap.size+1) (J1 none 0 0) (J1 none 0 0) (J I 0) (J3 false)
 L:LAt w0 x sa da cs cd sb so db dO
 ltS:0<x.S.length->sb<w.heap.size
 ltD:0<x.D.length->db<w.heap.size
 below:Bl w w0
 size:w.heap.size+2<=w0.heap.size
theorem begun{w:World}{x:Line}{sa da:Option Addr}{cs cd sb so db dO:Nat}(L:LAt w x sa da cs cd sb so db dO):q0I w ((w.alloc (J5 #[J1 sa x.S.length cs,J1 da x.D.length cd,J I x.g,J3 x.cl] 37)).alloc (J5 #[J1 none 0 0,J1 none 0 0,J I 0,J3 false] 37)) x sa da cs cd sb so db dO:=by
 have a:Bl w ((w.alloc (J5 #[J1 sa x.S.length cs,J1 da x.D.length cd,J I x.g,J3 x.cl] 37)).alloc (J5 #[J1 none 0 0,J1 none 0 0,J I 0,J3 false] 37)):=(z0m w _).alloc (by simp) _
 exact⟨(FAt.new w _ _ _ _).alloc _,FAt.new2 w _ _ _ _ _,L.later a,L.ltS,L.ltD,a,by simp⟩
theorem q0I.over{w w0 w1:World}{x:Line}{sa da:Option Addr}{cs cd sb so db dO:Nat}(h:q0I w w0 x sa da cs cd sb so db dO)(a:Bl w0 w1):q0I w w1 x sa da cs cd sb so db dO:=
 ⟨h.F1.later a h.F1.lt,h.F2.later a h.F2.lt,h.L.later a,h.ltS,h.ltD,z0N h.below a,Nat.le_trans h.size a.size⟩
theorem q0I.z3S{f:Func}{p q:Tmp}(a:f.results=#[.cell p 37,.tmp q]){w w0:World}{x:Line}{sa da:Option Addr}{cs cd sb so db dO:Nat}(h:q0I w w0 x sa da cs cd sb so db dO)(b:Int)(r:Line×Int)(c:r=(x,b))(act:Act)
  (d:act.tmps.getD p undef=J2 (some ⟨w.heap.size+1,0,none⟩)) (i:act.tmps.getD q undef=J I b) (hd:act.defers=[]) :
  bodyPost prog f (fun e w'=>Ans sb db x w r e w') Exit.ret act (q1X w0 (w.heap.size+1) (J1 sa x.S.length cs) (J1 da x.D.length cd) (J I x.g) (J3 x.cl)):=
 z7f a h.F2 h.below (Nat.le_succ _) x sa da cs cd sb so db dO h.L (fun h0=>by have:=h.ltS h0;omega) (fun h0=>by have:=h.ltD h0;omega) (fun _=>.inl ⟨rfl,rfl⟩) (fun _=>.inl ⟨rfl,rfl⟩) _ _ rfl rfl b r c act d i hd
theorem q7W(x:Line)(sa da:Option Addr)(cs cd sb so db dO:Nat)(s:ByteArray)(due:Int)(w:World)(L:LAt w x sa da cs cd sb so db dO) :
  Calls prog 72 #[J4 #[J1 sa x.S.length cs,J1 da x.D.length cd,J I x.g,J3 x.cl],.string s,J I due] w fun e w'=>Ans sb db x w (z5z x s due,z4M x due) e w':=by
 have a3:=z8k x s due;generalize (z5z x s due,z4M x due)=r at *;have k:=J6 (begun L);have j:=J6 (fun w (L:LAt w x sa da cs cd sb so db dO)=>q7v x sa da cs cd sb so db dO w L);clear L
 go_enter func72,ntmps72
 go_upto_region 1 with fail
 generalize ((w.alloc (J5 #[J1 sa x.S.length cs,J1 da x.D.length cd,J I x.g,J3 x.cl] 37)).alloc (J5 #[J1 none 0 0,J1 none 0 0,J I 0,J3 false] 37))=w0 at *;obtain⟨⟨c0,c1,c2,c3⟩,-⟩:=k.out.F1.facts;obtain⟨⟨K,M,N,P⟩,⟨f0,f1,f2,f3⟩⟩:=k.out.F2.facts;have T:=fun h=>z5w (z5D (x:=x) h).1;have a4:=J6 T;clear T;generalize z8D x=R at *
 rcases a3 with⟨h1,hr⟩ | ⟨h1,h2,hr⟩ | ⟨h1,h2,h3,hr⟩ | ⟨h1,h2,h3,hr⟩
 ·have B:=J6 hr;clear hr;go_wp2;exact k.out.z3S rfl _ _ B.out _ rfl rfl rfl
 ·have B:=J6 hr;have a5:(R != 0)=true:=by simpa using h2
  clear hr h2
  go_wp2_with (go_at_call 116;refine (j.out _ k.out.L).mono ?_;rintro e w1⟨rfl,d⟩;have a:=J6 (k.out.over d);clear d c0 c1 c2 c3 K M N P f0 f1 f2 f3;obtain⟨⟨c0,c1,c2,c3⟩,-⟩:=a.out.F1.facts;obtain⟨⟨K,M,N,P⟩,⟨f0,f1,f2,f3⟩⟩:=a.out.F2.facts)
  exact a.out.z3S rfl _ _ B.out _ rfl rfl rfl
 ·have B:=J6 hr;subst h2;clear hr
  go_wp2_with (go_at_call 116;refine (j.out _ k.out.L).mono ?_;rintro e w1⟨rfl,d⟩;have a:=J6 (k.out.over d);clear d c0 c1 c2 c3 K M N P f0 f1 f2 f3;obtain⟨⟨c0,c1,c2,c3⟩,-⟩:=a.out.F1.facts;obtain⟨⟨K,M,N,P⟩,⟨f0,f1,f2,f3⟩⟩:=a.out.F2.facts)
  exact a.out.z3S rfl _ _ B.out _ rfl rfl rfl
 ·have B:=J6 hr;subst h2;obtain⟨U,V,-,-⟩:=a4.out rfl;have W:=J6 U;clear hr U
  go_upto_region 8 with (go_at_call 116;refine (j.out _ k.out.L).mono ?_;rintro e w1⟨rfl,d⟩;have a:=J6 (k.out.over d);clear d c0 c1 c2 c3 K M N P f0 f1 f2 f3;obtain⟨⟨c0,c1,c2,c3⟩,⟨C,E,F,G⟩⟩:=a.out.F1.facts)
  go_upto_region 9 with (go_at_call 117;refine (q3t x.S sa cs sb so s _ V a.out.L.hsa a.out.L.ncs a.out.L.PS).mono ?_;rintro e Q⟨f,C1,rfl,X,n,hS,d⟩;have b:=J6 (a.out.over d);have HS:=J6 (show _/\_/\_ from⟨hS,X,n⟩);have HZ:=J6 d.size;clear d hS X n c0 c1 c2 c3 C E F G;obtain⟨⟨c0,c1,c2,c3⟩,⟨C,E,F,G⟩⟩:=b.out.F1.facts)
  have F1:=b.out.F1.z9e (J1 (some ⟨f,0,none⟩) (x.S.length+1) C1);have F2:=b.out.F2.other (c:=w.heap.size) (o:=0) (by omega) (J1 (some ⟨f,0,none⟩) (x.S.length+1) C1)
  have Y:=b.out.below.setCell (p:=⟨w.heap.size,0,none⟩) (Nat.le_refl _) (J1 (some ⟨f,0,none⟩) (x.S.length+1) C1);have PD:=b.out.L.PD.z3G ((Below.refl w.heap.size Q).setCell (p:=⟨w.heap.size,0,none⟩) (Nat.le_refl _) (J1 (some ⟨f,0,none⟩) (x.S.length+1) C1)) b.out.ltD;have PS:z3c (Q.setCell ⟨w.heap.size,0,none⟩ (J1 (some ⟨f,0,none⟩) (x.S.length+1) C1)) f 0 (x.S ++ [s]):=fun i Z=>(z8Y (by have:=a.out.size;have:=HS.out.2.1;omega) _).trans (HS.out.1 i Z)
  have hz:(Q.setCell ⟨w.heap.size,0,none⟩ (J1 (some ⟨f,0,none⟩) (x.S.length+1) C1)).heap.size=Q.heap.size:=by simp
  have a0:w.heap.size+2<=f/\f<Q.heap.size:=⟨by have:=a.out.size;have:=HS.out.2.1;omega,HS.out.2.2⟩
  clear c0 c1 c2 c3 C E F G;generalize (Q.setCell ⟨w.heap.size,0,none⟩ (J1 (some ⟨f,0,none⟩) (x.S.length+1) C1))=w3 at *;obtain⟨⟨c0,c1,c2,c3⟩,⟨C,E,F,G⟩⟩:=F1.facts;have q:=J6 (show _/\_/\_/\_/\_/\_/\_ from⟨F1,F2,Y,PD,PS,hz,a0⟩);clear F1 F2 Y PD PS hz a0
  go_upto_region 10 with (go_at_call 118;refine (q4C x.D da cd db dO due _ (by rw[W.out];exact V) b.out.L.hda b.out.L.ncd q.out.2.2.2.1).mono ?_;rintro e w4⟨l,C2,rfl,a1,t,hD,d⟩;have HY:=J6 (show _/\_/\_/\_ from⟨hD,a1,t,d⟩);have F1:=q.out.1.later d q.out.1.lt;clear d hD a1 t c0 c1 c2 c3 C E F G;obtain⟨⟨c0,c1,c2,c3⟩,⟨C,E,F,G⟩⟩:=F1.facts)
  have F2:=(q.out.2.1.later HY.out.2.2.2 q.out.2.1.lt).other (c:=w.heap.size) (o:=1) (by omega) (J1 (some ⟨l,0,none⟩) (x.D.length+1) C2)
  have a2:=F1.z8J (J1 (some ⟨l,0,none⟩) (x.D.length+1) C2);have Y:=(z0N q.out.2.2.1 HY.out.2.2.2).setCell (p:=⟨w.heap.size,1,none⟩) (Nat.le_refl _) (J1 (some ⟨l,0,none⟩) (x.D.length+1) C2);have z:=q.out.2.2.2.2.2;have z2:=HY.out.2.1
  have LN:LAt (w4.setCell ⟨w.heap.size,1,none⟩ (J1 (some ⟨l,0,none⟩) (x.D.length+1) C2)) ⟨x.S ++ [s],x.D ++ [due],x.g,x.cl⟩ (some ⟨f,0,none⟩) (some ⟨l,0,none⟩) C1 C2 f 0 l 0:=by
   refine⟨?_,?_,fun _=>rfl,fun _=>rfl,fun h=>(by cases h),fun h=>(by cases h),fun i Z=>?_,fun i Z=>?_⟩
   ·show (x.S ++ [s]).length * 16<=_
    simp;omega
   ·show (x.D ++ [due]).length * 8<=_
    simp[W.out];omega
   ·exact (z8Y (by omega) _).trans ((HY.out.2.2.2.cell (p:=⟨f,0+i,none⟩) (by show f<_;omega)).trans (q.out.2.2.2.2.1 i Z))
   ·exact (z8Y (by omega) _).trans (HY.out.1 i Z)
  clear c0 c1 c2 c3 C E F G;generalize (w4.setCell ⟨w.heap.size,1,none⟩ (J1 (some ⟨l,0,none⟩) (x.D.length+1) C2))=w5 at *;obtain⟨⟨c0,c1,c2,c3⟩,-⟩:=a2.facts;obtain⟨⟨K,M,N,P⟩,⟨f0,f1,f2,f3⟩⟩:=F2.facts;have H:=J6 (show _/\_/\_ from⟨F2,Y,LN⟩);have u:f≠w.heap.size+1:=by omega
  have v:l≠w.heap.size+1:=by omega
  have y:w.heap.size<=f:=by omega
  have A:w.heap.size<=l:=by omega
  have m:=J6 (show (_/\_)/\_/\_ from⟨⟨u,y⟩,v,A⟩);clear F1 a2 F2 Y LN u v y A z z2;go_wp2;exact z7f rfl H.out.1 H.out.2.1 (Nat.le_succ _) ⟨x.S ++ [s],x.D ++ [due],x.g,x.cl⟩ _ _ _ _ _ _ _ _ H.out.2.2 (fun _=>m.out.1.1) (fun _=>m.out.2.1) (fun _=>.inr m.out.1.2) (fun _=>.inr m.out.2.2) _ _ (by simp) (by simp) _ _ B.out _ rfl rfl rfl
end Ln
namespace Ln
open Go.RowKit
def q9x(B:Nat)(w:World)(A:Option Addr)(C:Nat)(l:List ByteArray):Prop:=w.ownsRow B 9 1 (J1 A l.length C) l.length (l.map .string)
def q8S(B:Nat)(w:World)(A:Option Addr)(C:Nat)(l:List Int):Prop:=w.ownsRow B 3 1 (J1 A l.length C) l.length (l.map (.int .i64))
theorem z0n{w w':World}{b e z n:Nat}{v:Value}{c:List Value}(h:w.ownsRow b e z v n c)(d:∀ k,v.ownBlock=some k->w'.heap[k]?=w.heap[k]?):w'.ownsRow b e z v n c:=by
 refine⟨h.1,?_⟩
 rcases h.2 with f | ⟨g,cap,a,rfl,i,j,rest⟩
 ·exact .inl f
 ·exact .inr ⟨g,cap,a,rfl,i,(d g rfl).trans j,rest⟩
theorem z0U{w:World}{b c e z n:Nat}{v:Value}{d:List Value}(h:w.ownsRow b e z v n d)(f:c<=b):w.ownsRow c e z v n d:=by
 refine⟨h.1,?_⟩
 rcases h.2 with i | ⟨g,cap,a,j,h2,h3⟩
 ·exact .inl i
 ·exact .inr ⟨g,cap,a,j,Nat.le_trans f h2,h3⟩
theorem z2j{w w':World}{b e z n:Nat}{v:Value}{a:List Value}(h:w.ownsRow b e z v n a)(c:Bl w w'):w'.ownsRow b e z v n a:=z0n h fun k d=>c.block k (World.ownsRow.lt h k d).2
theorem z2B{w:World}{b e z n:Nat}{v:Value}{a:List Value}(h:w.ownsRow b e z v n a):∃ A C,v=J1 A n C:=by
 rcases h.2 with⟨hv,hn⟩ | ⟨g,cap,cur,hv,_⟩
 ·subst hn;exact⟨_,_,hv⟩
 ·exact⟨_,_,hv⟩
theorem z2Q{P:Program}{ops:Array Oper}{o:Oper}{a:Act}{w:World}{K:Act->World->Prop}{Q:Exit->Act->World->Prop}{E:Prop}
  (B:o.guard=none) (s x:Operand) (t:TypeId) (g:o.op=Op.call { callee:=Callee.builtin Builtin.append,args:=#[s,x],argTypes:=#[t,t] })
  (base:Nat) (e:TypeId) (i:TypeInfo) (z:Value) (size bytes:Nat) (h1:P.underlying t=some (.slice e)) (h2:P.info? e=some i) (h3:i.zero=some z) (D:i.size=size) (F:i.bytes=bytes) (G:z.cells.size=size) (H:0<size)
  (v:Value) (n:Nat) (k:List Value) (p:a.eval s=v) (hown:w.ownsRow base e size v n k)
  (ao:Option Addr) (m c:Nat) (b:List Value) (q:a.eval x=J1 ao m c) (r:b.length=m * size) (f:ao=none->m=0/\c=0) (L:∀ h,ao=some h->∀ j u,b[j]?=some u->w.cell? (h.add j)=some u) (l:∀ u∈b,u.oneCell'=true)
  (b1:n+m<=maxLen) (b2:(n+m) * bytes<=140737488355328) (b3:base<=w.heap.size)
  (y:∀ A C w',w'.ownsRow base e size (J1 A (n+m) C) (n+m) (k ++ b)->w.grownBy w' v.ownBlock->K (a.put o.dst (J1 A (n+m) C)) w') :
  if Region.wanted o (yielded ops a.tmps)=true then Oper.wp P o a w K Q else E:=by
 have M:Region.wanted o (yielded ops a.tmps)=true:=by simp[Region.wanted,B]
 rw[if_pos M];cases ao with
 | some h =>
  obtain⟨N,w',d,r1,r2,_⟩:=run_append_own (P:=P) w base t o.type e i z size bytes h1 h2 h3 D F G H v n k hown h m c b r (L h rfl) l b1 b2 b3;unfold Oper.wp
  simp[execOp,g,resolve,invoke,builtin,p,q,d,Result.andThen]
  obtain⟨A,C,rfl⟩:=z2B r1;exact y A C w' r1 r2
 | none =>
  obtain⟨rfl,rfl⟩:=f rfl;obtain rfl:b=[]:=List.eq_nil_of_length_eq_zero (by simpa using r)
  have d:=run_append_owned_none (P:=P) w base t o.type e i size h1 h2 v n k hown;unfold Oper.wp
  simp[execOp,g,resolve,invoke,builtin,p,q,d,Result.andThen]
  obtain⟨A,C,rfl⟩:=z2B hown;exact y A C w (by simpa using hown) (World.grownBy.refl w _)
theorem q6t(l:List ByteArray):∀ u∈l.map Value.string,u.oneCell'=true:=fun u hu=>by
 simp at hu
 obtain⟨t,_,rfl⟩:=hu;rfl
theorem q0f(l:List Int):∀ u∈l.map (Value.int .i64),u.oneCell'=true:=fun u hu=>by
 simp at hu
 obtain⟨t,_,rfl⟩:=hu;rfl
theorem z8g{α:Type}{l:List α}{a:Option Addr}{b off c:Nat}(d:0<l.length->a=some ⟨b,off,none⟩)(f:a=none->c=0):a=none->l.length=0/\c=0:=fun e=>by
 refine⟨?_,f e⟩
 rcases Nat.eq_zero_or_pos l.length with h | h
 ·exact h
 ·rw[d h]at e;cases e
theorem q9x.facts{B:Nat}{w:World}{A:Option Addr}{C:Nat}{l:List ByteArray}(h:q9x B w A C l):(A=none->C=0)/\∃ g,(0<l.length->A=some ⟨g,0,none⟩/\B<=g/\g<w.heap.size)/\z3c w g 0 l:=by
 rcases h.2 with⟨hv,hn⟩ | ⟨g,cap,cur,hv,hb,hg,_⟩
 ·simp at hv
  exact⟨fun _=>hv.2.2,0,fun h0=>by omega,fun i d=>by omega⟩
 ·cases hv;obtain⟨a,b,c⟩:=q0q h;exact⟨fun h=>(by cases h),g,fun _=>⟨rfl,a,b⟩,c⟩
theorem q8S.facts{B:Nat}{w:World}{A:Option Addr}{C:Nat}{l:List Int}(h:q8S B w A C l):(A=none->C=0)/\∃ g,(0<l.length->A=some ⟨g,0,none⟩/\B<=g/\g<w.heap.size)/\z0F w g 0 l:=by
 rcases h.2 with⟨hv,hn⟩ | ⟨g,cap,cur,hv,hb,hg,_⟩
 ·simp at hv
  exact⟨fun _=>hv.2.2,0,fun h0=>by omega,fun i d=>by omega⟩
 ·cases hv;obtain⟨a,b,c⟩:=q0B h;exact⟨fun h=>(by cases h),g,fun _=>⟨rfl,a,b⟩,c⟩
structure q6I(B:Nat)(w:World)(x:Line)(A1 A2:Option Addr)(C1 C2:Nat):Prop where
 oS:q9x B w A1 C1 x.S
 oD:q8S B w A2 C2 x.D
 apart:∀ k,(Value.slice A1 x.S.length C1).ownBlock=some k->(Value.slice A2 x.D.length C2).ownBlock≠some k
theorem q6I.at{B:Nat}{w:World}{x:Line}{A1 A2:Option Addr}{C1 C2:Nat}(h:q6I B w x A1 A2 C1 C2)(h1:x.S.length * 16<=140737488351232)(h2:x.D.length * 8<=140737488351232):∃ a b,LAt w x A1 A2 C1 C2 a 0 b 0/\(0<x.S.length->B<=a/\a<w.heap.size)/\(0<x.D.length->B<=b/\b<w.heap.size):=by
 obtain⟨c,a,f1,p1⟩:=h.oS.facts;obtain⟨d,b,f2,p2⟩:=h.oD.facts;exact⟨a,b,⟨h1,h2,fun h=>(f1 h).1,fun h=>(f2 h).1,c,d,p1,p2⟩,fun h=>(f1 h).2,fun h=>(f2 h).2⟩
theorem q6I.set{B:Nat}{w:World}{x:Line}{A1 A2:Option Addr}{C1 C2:Nat}(h:q6I B w x A1 A2 C1 C2){w':World}(a:∀ k,B<=k->k<w.heap.size->w'.heap[k]?=w.heap[k]?):q6I B w' x A1 A2 C1 C2:=
 ⟨z0n h.oS fun k e=>a k (World.ownsRow.lt h.oS k e).1 (World.ownsRow.lt h.oS k e).2,z0n h.oD fun k e=>a k (World.ownsRow.lt h.oD k e).1 (World.ownsRow.lt h.oD k e).2,h.apart⟩
theorem q3k{f:Func}{p:Tmp}(a:f.results=#[.cell p 37]){wq:World}{b:Nat}{d u1 u2 e:Value}(R:FAt wq b d u1 u2 e)(v0 v1 v2 v3:Value)(Q:Ending->World->Prop)(g:Q (.returned (J4 #[v0,v1,v2,v3])) (q1X wq b v0 v1 v2 v3))(act:Act)
  (h:act.tmps.getD p undef=J2 (some ⟨b,0,none⟩)) (hd:act.defers=[]) :
  bodyPost prog f Q Exit.ret act (q1X wq b v0 v1 v2 v3):=by
 have i:=q1Y R v0 v1 v2 v3;generalize q1X wq b v0 v1 v2 v3=w9 at *;obtain⟨⟨c0,c1,c2,c3⟩,-⟩:=i.facts;have c:act.tmps[p]?.getD undef=J2 (some ⟨b,0,none⟩):=by simpa using h
 exact bodyPost_ret (v:=J4 #[v0,v1,v2,v3]) (by simp[results,a,go_sem,c,c0,c1,c2,c3]) hd g
theorem z3s(x:Line)(sa da:Option Addr)(cs cd sb so db dO:Nat)(w:World)(L:LAt w x sa da cs cd sb so db dO) :
  Calls prog 43 #[J4 #[J1 sa x.S.length cs,J1 da x.D.length cd,J I x.g,J3 x.cl]] w fun e w'=>∃ A1 C1 A2 C2,e=.returned (J4 #[J1 A1 x.S.length C1,J1 A2 x.D.length C2,J I x.g,J3 x.cl])/\q6I (w.heap.size+2) w' x A1 A2 C1 C2/\Bl w w':=by
 obtain⟨T,U,y,z,A⟩:=info_parts z7x;obtain⟨V,W,B,C,E⟩:=info_parts q1J;have hls:=L.hls;have hld:=L.hld;have X:=z8g L.hsa L.ncs;have Y:=z8g L.hda L.ncd;have q8F:=q6t x.S;have h:=q0f x.D;have Z:0+x.S.length<=maxLen:=by unfold maxLen;omega
 have bD:0+x.D.length<=maxLen:=by unfold maxLen;omega
 have i:=J6 (begun L);clear L
 go_enter func43,ntmps43
 go_upto_region 1 with fail
 generalize ((w.alloc (J5 #[J1 sa x.S.length cs,J1 da x.D.length cd,J I x.g,J3 x.cl] 37)).alloc (J5 #[J1 none 0 0,J1 none 0 0,J I 0,J3 false] 37))=w0 at *;obtain⟨⟨c0,c1,c2,c3⟩,⟨j,l,m,n⟩⟩:=i.out.F1.facts;have M:=z7H i.out.L.hsa i.out.L.PS
 go_region_law (first
  | (refine z2Q rfl _ _ 35 rfl w0.heap.size 9 T _ 1 16 underlying35 U y z A rfl (by decide) (J1 none 0 0) 0 [] rfl (World.ownsRow_nil _ _ _ _) sa x.S.length cs (x.S.map .string) rfl (by simp) X M q8F Z (by omega) (Nat.le_refl _) ?_;intro A1 C1 w1 d q;rw[Nat.zero_add,List.nil_append]at d;have F:Bl w0 w1:=(Below.refl _ w0).drew.grown q (Nat.le_refl _) (fun k r=>by cases r);have a:=J6 (i.out.over F);have s:=J6 d;have a0:=J6 F;clear c0 c1 c2 c3 j l m n M F q d;obtain⟨⟨c0,c1,c2,c3⟩,⟨j,l,m,n⟩⟩:=a.out.F1.facts;have N:=z8p a.out.L.hda a.out.L.PD)
  | (refine z2Q rfl _ _ 34 rfl w1.heap.size 3 V _ 1 8 underlying34 W B C E rfl (by decide) (J1 none 0 0) 0 [] rfl (World.ownsRow_nil _ _ _ _) da x.D.length cd (x.D.map (.int .i64)) rfl (by simp) Y N h bD (by omega) (Nat.le_refl _) ?_;intro A2 C2 v f t;rw[Nat.zero_add,List.nil_append]at f;have G:Bl w1 v:=(Below.refl _ w1).grown t (Nat.le_refl _) (fun k r=>by cases r);have b:=J6 (a.out.over G);have u:=J6 f;have H:=J6 G;clear c0 c1 c2 c3 j l m n N G t f;obtain⟨⟨c0,c1,c2,c3⟩,⟨j,l,m,n⟩⟩:=b.out.F1.facts))
 all_goals
  have F1:=(b.out.F1.z9e (J1 A1 x.S.length C1)).z8J (J1 A2 x.D.length C2);have F2:=(b.out.F2.other (c:=w.heap.size) (o:=0) (by omega) (J1 A1 x.S.length C1)).other (c:=w.heap.size) (o:=1) (by omega) (J1 A2 x.D.length C2)
  have P:=(b.out.below.setCell (p:=⟨w.heap.size,0,none⟩) (Nat.le_refl _) (J1 A1 x.S.length C1)).setCell (p:=⟨w.heap.size,1,none⟩) (Nat.le_refl _) (J1 A2 x.D.length C2);have Q:q6I (w.heap.size+2) v x A1 A2 C1 C2:=⟨z0U (z2j s.out H.out) i.out.size,z0U u.out a.out.size,fun k h1 h2=>by have z1:=(World.ownsRow.lt s.out k h1).2;have z2:=(World.ownsRow.lt u.out k h2).1;omega⟩
  have R:=Q.set (w':=(v.setCell ⟨w.heap.size,0,none⟩ (J1 A1 x.S.length C1)).setCell ⟨w.heap.size,1,none⟩ (J1 A2 x.D.length C2)) (fun k r _=>by rw[Below.heap_setCell _ _ _ _ (show k≠w.heap.size by omega),Below.heap_setCell _ _ _ _ (show k≠w.heap.size by omega)])
  clear c0 c1 c2 c3 j l m n Q;generalize ((v.setCell ⟨w.heap.size,0,none⟩ (J1 A1 x.S.length C1)).setCell ⟨w.heap.size,1,none⟩ (J1 A2 x.D.length C2))=w3 at *;obtain⟨⟨c0,c1,c2,c3⟩,-⟩:=F1.facts;obtain⟨⟨d0,d1,d2,d3⟩,⟨f0,f1,f2,f3⟩⟩:=F2.facts;have K:=J6 (show _/\_/\_ from⟨F2,P,R⟩);clear F1 F2 P R;go_wp2;exact q3k rfl K.out.1 _ _ _ _ _ ⟨A1,C1,A2,C2,rfl,K.out.2.2.set fun k r _=>z4J _ _ _ _ (by omega),z6n _ _ _ _ K.out.2.1 (Nat.le_succ _)⟩ _ rfl rfl
end Ln
namespace Cd
open Go.RowKit
theorem q3w(l:List Int):∀ last:Int,-1<=last->z0k last l=true->(l.length:Int)<=5 - last∨l=[]:=by
 induction l with
 | nil=>intro _ _ _;exact .inr rfl
 | cons x t ih =>
  intro last hl h;simp only[z0k,Bool.and_eq_true,decide_eq_true_eq,isV]at h;obtain⟨⟨h1,h2⟩,h3⟩:=h
  rcases ih x (by omega) h3 with a | a
  ·left;simp only[List.length_cons];omega
  ·subst a;left;simp;omega
theorem q1j(l:List (Int×Int)):∀ last:Int,-1<=last->z0e last l=true->(l.length:Int)<=5 - last∨l=[]:=by
 induction l with
 | nil=>intro _ _ _;exact .inr rfl
 | cons x t ih =>
  intro last hl h;simp only[z0e,Bool.and_eq_true,decide_eq_true_eq,isV]at h;obtain⟨⟨⟨⟨h1,h2⟩,_⟩,_⟩,h3⟩:=h
  rcases ih x.1 (by omega) h3 with a | a
  ·left;simp only[List.length_cons];omega
  ·subst a;left;simp;omega
theorem z6x{k i v n:Int}{S:List (Int×Int)}{D:List Int}(h:z0o k i v n S D=0):z0e (-1) S=true/\z0k (-1) D=true/\S.length<=6/\D.length<=6:=by
 have h0:z0e (-1) S=true/\z0k (-1) D=true:=by
  rcases z3P k i v n S D with h | h | ⟨_,_,h | h | ⟨_,_,h | h | h | ⟨_,h | h | h | h⟩⟩⟩ <;> simp_all
 refine⟨h0.1,h0.2,?_,?_⟩
 ·rcases q1j S (-1) (by omega) h0.1 with h | h
  ·omega
  ·subst h;simp
 ·rcases q3w D (-1) (by omega) h0.2 with h | h
  ·omega
  ·subst h;simp
def q4I(w:World)(b:Nat)(k i v n:Int)(s d:Value):Prop:=
 w.cell? ⟨b,0,none⟩=some (J I k)/\w.cell? ⟨b,1,none⟩=some (J I i)/\w.cell? ⟨b,2,none⟩=some (J I v) /\
 w.cell? ⟨b,3,none⟩=some (J I n)/\w.cell? ⟨b,4,none⟩=some s/\w.cell? ⟨b,5,none⟩=some d
theorem z5n(w:World)(k i v n:Int)(s d:Value):q4I (w.alloc (J5 #[J I k,J I i,J I v,J I n,s,d] 49)) w.heap.size k i v n s d:=by
 unfold q4I
 simp[World.cell?_alloc_at]
theorem q4I.later{w w':World}{B b:Nat}{k i v n:Int}{s d:Value}(h:q4I w b k i v n s d)(a:Below B w w')(c:b<B):q4I w' b k i v n s d:=by
 obtain⟨h0,h1,h2,h3,e,f⟩:=h;exact⟨(a.cell (p:=⟨b,0,none⟩) c).trans h0,(a.cell (p:=⟨b,1,none⟩) c).trans h1,(a.cell (p:=⟨b,2,none⟩) c).trans h2,(a.cell (p:=⟨b,3,none⟩) c).trans h3,(a.cell (p:=⟨b,4,none⟩) c).trans e,(a.cell (p:=⟨b,5,none⟩) c).trans f⟩
theorem Row.below{W w w':World}{B:Nat}{v:Value}{b:List Int}(h:Row w B v b)(a:Below B W w)(c:B<=W.heap.size)(d:w.grownBy w' v.ownBlock):Below B W w':=
 a.grown d (Nat.le_trans c a.size) (fun k e=>(World.ownsRow.lt h k e).1)
theorem q1d(k i v n:Int)(S:List (Int×Int))(D:List Int)(sa da:Option Addr)(cs cd sb so db dO:Nat)(w:World)
  (hls:S.length<=maxLen) (hld:D.length<=maxLen) (hsa:0<S.length->sa=some ⟨sb,so,none⟩) (hda:0<D.length->da=some ⟨db,dO,none⟩) (PS:z2I w sb so S) (PD:z0F w db dO D)
  (b:z0o k i v n S D≠0) :
  Calls prog 6 #[J4 #[J I k,J I i,J I v,J I n,J1 sa S.length cs,J1 da D.length cd]] w fun e w'=>e=.returned (.tuple #[.string ⟨#[]⟩,J I (z0o k i v n S D)])/\Bl w w':=by
 have a:=z0u k i v n S D sa da cs cd sb so db dO _ hls hld hsa hda (PS.later (z0m w (J5 #[J I k,J I i,J I v,J I n,J1 sa S.length cs,J1 da D.length cd] 49))) (PD.later (z0m _ _));generalize z0o k i v n S D=G at *;have f:(G != 0)=true:=by simpa using b
 have c:=a;clear a PS PD hls hld hsa hda b
 go_enter func6,ntmps6
 go_wp2_with (go_at_call 21;refine c.mono ?_;rintro e w1⟨rfl,d⟩)
 go_ret2;exact⟨rfl,z1A d⟩
def z4w(p:Int×Int):List Int:=be p.1 1 ++ be p.2 7
def z5h(k i v n:Int)(a:Nat):List Int:=be k 1 ++ be i 6 ++ be v 1 ++ be n 7 ++ be a 1
def enc(k i v n:Int)(S:List (Int×Int))(D:List Int):List Int:=
 z5h k i v n S.length ++ S.flatMap z4w ++ be D.length 1 ++ D.flatMap (be · 1)
theorem z8T(p:Int×Int):(z4w p).length=8:=by simp[z4w,z0A]
theorem z2z(S:List (Int×Int)):(S.flatMap z4w).length=8 * S.length:=by
 induction S with
 | nil=>rfl
 | cons a t ih=>rw[List.flatMap_cons,List.length_append,ih,z8T,List.length_cons];omega
theorem z4X(D:List Int):(D.flatMap (be · 1)).length=D.length:=by
 induction D with
 | nil=>rfl
 | cons a t ih=>rw[List.flatMap_cons,List.length_append,ih,z0A,List.length_cons];omega
theorem z1S(k i v n:Int)(a:Nat):(z5h k i v n a).length=16:=by simp[z5h,z0A]
theorem z4n{α:Type}(f:α->List Int)(l:List α)(d:α)(m:Nat)(h:m<l.length):(l.take (m+1)).flatMap f=(l.take m).flatMap f ++ f (l.getD m d):=by
 rw[List.take_succ_eq_append_getElem h,List.flatMap_append,List.flatMap_singleton]
 simp[List.getD,h]
theorem take_len{α:Type}(l:List α)(m:Nat):(l.take m).length<=l.length:=by simp;omega
theorem Row.keeps{w w':World}{B:Nat}{v:Value}{a:List Int}{o:Obj}(h:Row w B v a)(b:(w.alloc o).grownBy w' v.ownBlock):w'.heap[w.heap.size]?=(w.alloc o).heap[w.heap.size]?:=
 b.block _ (by simp) (fun e=>by have:=(World.ownsRow.lt h _ e.symm).2;omega)
theorem cell_of_heap{w w':World}{b:Nat}(h:w'.heap[b]?=w.heap[b]?)(o:Nat):w'.cell? ⟨b,o,none⟩=w.cell? ⟨b,o,none⟩:=World.cell?_of_block (w:=w) (a:=⟨b,o,none⟩) h
theorem Row.conv{w:World}{B:Nat}{v:Value}{E:List Int}(h:Row w B v E):(convert 71 9 v).run prog w=.ok (.string (strOfNums E)) w:=by
 rcases h.2 with⟨rfl,h0⟩ | ⟨g,cap,cur,rfl,hb,hh,hn,hm,hs,ht⟩
 ·have:E=[]:=List.eq_nil_of_length_eq_zero h0;subst this;exact run_convert_bytes_nil (P:=prog) w 71 5 underlying71 underlying5 0 0 9 underlying9
 ·refine run_convert_bytes_arg (P:=prog) w 71 5 underlying71 underlying5 g 0 E.length cap E rfl (fun j a=>?_) 9 underlying9;have b:w.ownsRow B 5 1 (J1 (some ⟨g,0,none⟩) E.length cap) E.length (E.map (Value.int .u8)):=h;rw[Nat.zero_add,b.cellAt j (by omega)]
  simp[List.getD,a]
theorem z2I.z3G{w w':World}{B b off:Nat}{l:List (Int×Int)}(h:z2I w b off l)(a:Below B w w')(c:0<l.length->b<B):z2I w' b off l:=fun i d =>
 ⟨(a.cell (p:=⟨b,off+i * 2,none⟩) (c (by omega))).trans (h i d).1,(a.cell (p:=⟨b,off+i * 2+1,none⟩) (c (by omega))).trans (h i d).2⟩
theorem z0F.z3G{w w':World}{B b off:Nat}{l:List Int}(h:z0F w b off l)(a:Below B w w')(c:0<l.length->b<B):z0F w' b off l:=fun i d =>
 (a.cell (p:=⟨b,off+i,none⟩) (c (by omega))).trans (h i d)
theorem z2I.lt{w:World}{b off:Nat}{l:List (Int×Int)}(h:z2I w b off l)(hl:0<l.length):b<w.heap.size:=World.block_lt_of_cell? w _ (h 0 hl).1
theorem z0F.lt{w:World}{b off:Nat}{l:List Int}(h:z0F w b off l)(hl:0<l.length):b<w.heap.size:=World.block_lt_of_cell? w _ (h 0 hl)
theorem z2A(B:Nat)(v:Value)(c:List Int)(n h:Int)(a:Nat)(w:World)(d:h=(a:Int))(hown:Row w B v c)(f:a<=7)(b:c.length+a<=1000000)(i:B<=w.heap.size) :
  Calls prog 22 #[v,J I n,J I h] w fun e w'=>∃ g,e=.returned g/\Row w' B g (c ++ be n a)/\w.grownBy w' v.ownBlock/\At w v g:=by
 subst d;exact z8F B v c n a w hown f b i
theorem q2W(k i v n:Int)(S:List (Int×Int))(D:List Int)(sa da:Option Addr)(cs cd sb so db dO:Nat)(w:World)
  (hls:S.length<=maxLen) (hld:D.length<=maxLen) (hsa:0<S.length->sa=some ⟨sb,so,none⟩) (hda:0<D.length->da=some ⟨db,dO,none⟩) (PS:z2I w sb so S) (PD:z0F w db dO D)
  (hg:z0o k i v n S D=0) :
  Calls prog 6 #[J4 #[J I k,J I i,J I v,J I n,J1 sa S.length cs,J1 da D.length cd]] w fun e w'=>e=.returned (.tuple #[.string (strOfNums (enc k i v n S D)),J I 0])/\Bl w w':=by
 obtain⟨_,_,e7,e8⟩:=z6x hg;have W:=fun h=>PS.lt h;have X:=fun h=>PD.lt h;have c:=z0u k i v n S D sa da cs cd sb so db dO _ hls hld hsa hda (PS.later (z0m w (J5 #[J I k,J I i,J I v,J I n,J1 sa S.length cs,J1 da D.length cd] 49))) (PD.later (z0m _ _));rw[hg]at c;have d6:Hid (0<S.length->sb<w.heap.size+1):=fun h=>Nat.lt_succ_of_lt (W h);have d7:Hid (0<D.length->db<w.heap.size+1):=fun h=>Nat.lt_succ_of_lt (X h);have d8:Hid (0<S.length->sa=some ⟨sb,so,none⟩):=hsa;have d9:Hid (0<D.length->da=some ⟨db,dO,none⟩):=hda;clear hls hld hsa hda hg W X
 go_enter func6,ntmps6
 go_wp2_with fail
 refine c.mono ?_;rintro e w1⟨rfl,r⟩;clear c;have b:q4I w1 w.heap.size k i v n (J1 sa S.length cs) (J1 da D.length cd):=(z5n _ _ _ _ _ _ _).later r (by simp)
 have F:Hid (Bl w w1):=z1A r;have e0:=PS.later F.out;have e1:=PD.later F.out;have a:w.heap.size+1<=w1.heap.size:=(by have:=r.size;simpa using this)
 have G:Row w1 (w.heap.size+1) (J1 none 0 0) []:=World.ownsRow_nil _ _ _ _;clear r PS PD;obtain⟨c0,c1,c2,c3,d,f⟩:=id b
 go_wp2_with fail
 refine (z2A (w.heap.size+1) _ [] _ 1 1 _ rfl G (by omega) (by simp) a).mono ?_
 rintro e w2⟨v2,rfl,s,Y,_⟩;have t:Hid (Below (w.heap.size+1) w1 w2):=G.below (Below.refl _ _) a Y;clear c0 c1 c2 c3 d f Y G;have Z:=b.later t.out (Nat.lt_succ_self _);obtain⟨c0,c1,c2,c3,d,f⟩:=id Z;have a0:w.heap.size+1<=w2.heap.size:=Nat.le_trans a t.out.size;rw[List.nil_append]at s
 go_wp2_with fail
 refine (z2A (w.heap.size+1) _ _ _ 6 6 _ rfl s (by omega) (by simp[z0A]) a0).mono ?_
 rintro e w3⟨v3,rfl,H,a1,_⟩;have x:Hid (Below (w.heap.size+1) w1 w3):=s.below t.out a a1;clear c0 c1 c2 c3 d f a1 s t Z;have a2:=b.later x.out (Nat.lt_succ_self _);obtain⟨c0,c1,c2,c3,d,f⟩:=id a2;have a3:w.heap.size+1<=w3.heap.size:=Nat.le_trans a x.out.size
 go_wp2_with fail
 refine (z2A (w.heap.size+1) _ _ _ 1 1 _ rfl H (by omega) (by simp[z0A]) a3).mono ?_
 rintro e w4⟨v4,rfl,K,a4,_⟩;have A:Hid (Below (w.heap.size+1) w1 w4):=H.below x.out a a4;clear c0 c1 c2 c3 d f a4 H x a2;have a5:=b.later A.out (Nat.lt_succ_self _);obtain⟨c0,c1,c2,c3,d,f⟩:=id a5;have a6:w.heap.size+1<=w4.heap.size:=Nat.le_trans a A.out.size
 go_wp2_with fail
 refine (z2A (w.heap.size+1) _ _ _ 7 7 _ rfl K (by omega) (by simp[z0A]) a6).mono ?_
 rintro e w5⟨v5,rfl,L,a7,_⟩;have B:Hid (Below (w.heap.size+1) w1 w5):=K.below A.out a a7;clear c0 c1 c2 c3 d f a7 K A a5;have a8:=b.later B.out (Nat.lt_succ_self _);obtain⟨c0,c1,c2,c3,d,f⟩:=id a8;have a9:w.heap.size+1<=w5.heap.size:=Nat.le_trans a B.out.size
 go_wp2_with fail
 refine (z2A (w.heap.size+1) _ _ _ 1 1 _ rfl L (by omega) (by simp[z0A]) a9).mono ?_
 rintro e w6⟨v6,rfl,b4,b5,_⟩;have M:Hid (Below (w.heap.size+1) w1 w6):=L.below B.out a b5;clear c0 c1 c2 c3 d f b5 L B a8;have b6:=b.later M.out (Nat.lt_succ_self _);obtain⟨c0,c1,c2,c3,d,f⟩:=id b6;clear a0 a3 a6 a9;have b7:Hid (Row w6 (w.heap.size+1) v6 (z5h k i v n S.length)):=b4;clear b4
 go_wp2_with fail
 clear c0 c1 c2 c3 d f b6
 go_loopw [5,39] (fun u j wl=>∃ m:Nat,m<=S.length/\j=J I m/\Hid (Row wl (w.heap.size+1) u (z5h k i v n S.length ++ (S.take m).flatMap z4w))/\Hid (Below (w.heap.size+1) w1 wl)) (fun _ j _=>S.length - (intOf j).toNat)
 case atStart=>exact⟨0,Nat.zero_le _,rfl,by simpa using b7,M⟩
 case round =>
  obtain⟨m,hm,rfl,C,o⟩:=hrel;clear b7 M;have E:w.heap.size+1<=wr.heap.size:=Nat.le_trans a o.out.size;have b9:((S.take m).flatMap z4w).length<=48:=by rw[z2z];have:=take_len S m;omega
  by_cases l:m<S.length
  ·have hcell:=e0.z3G o.out d6.out m l;have g:=z4n z4w S (0,0) m l;obtain⟨y,hy⟩:∃ y,S.getD m (0,0)=y:=⟨_,rfl⟩;rw[hy]at hcell g;obtain⟨y,z⟩:=y;obtain⟨c6,c7⟩:=hcell;dsimp only at c6 c7;have e:=d8.out (by omega)
   subst e;have HT:Hid _:=g;clear g hy
   go_wp2_with fail
   have N:Row (wr.alloc (Obj.cells #[Value.int IntKind.i64 y,Value.int IntKind.i64 z] 74)) (w.heap.size+1) u5 (z5h k i v n S.length ++ (S.take m).flatMap z4w):=World.ownsRow.alloc C.out _;have c8:Hid (Below (w.heap.size+1) w1 (wr.alloc (Obj.cells #[Value.int IntKind.i64 y,Value.int IntKind.i64 z] 74))):=o.out.alloc E _;refine (z2A (w.heap.size+1) _ _ _ 1 1 _ rfl N (by omega) (by simp only[List.length_append,z1S];omega) (by simp;omega)).mono ?_
   rintro e wa⟨va,rfl,P,Q,_⟩;have hk:=C.out.keeps Q;have e2:wa.cell? ⟨wr.heap.size,1,none⟩=some (J I z):=by rw[cell_of_heap hk];simp[World.cell?_alloc_at]
   have c9:Hid (Below (w.heap.size+1) w1 wa):=N.below c8.out a Q;have e3:w.heap.size+1<=wa.heap.size:=Nat.le_trans a c9.out.size;clear hk Q N c8 c6 c7
   go_wp2_with fail
   refine (z2A (w.heap.size+1) _ _ _ 7 7 _ rfl P (by omega) (by simp only[List.length_append,z1S,z0A];omega) e3).mono ?_
   rintro e wb⟨vb,rfl,p,q,_⟩;have R:Hid (Below (w.heap.size+1) w1 wb):=P.below c9.out a q
   have T:Hid (Row wb (w.heap.size+1) vb (z5h k i v n S.length ++ (S.take (m+1)).flatMap z4w)):=by
    show Row _ _ _ _
    rw[HT.out,z4w,<- List.append_assoc,<- List.append_assoc];exact p
   clear P p q e2;go_wp2;go_roundw
   case rel=>exact⟨m+1,by omega,by go_num,T,R⟩
   case measure=>simp[intOf];omega
  ·have e4:m=S.length:=by omega
   subst e4;have U:Row wr (w.heap.size+1) u5 (z5h k i v n S.length ++ S.flatMap z4w):=by have:=C.out;rwa [List.take_length]at this
   have d0:=b.later o.out (Nat.lt_succ_self _);obtain⟨c0,c1,c2,c3,d,f⟩:=id d0;have e9:(S.flatMap z4w).length<=48:=by rw[z2z];omega
   clear b9 C d0
   go_wp2_with fail
   refine (z2A (w.heap.size+1) _ _ _ 1 1 _ rfl U (by omega) (by simp only[List.length_append,z1S];omega) E).mono ?_
   rintro e w8⟨v8,rfl,d1,d2,_⟩;have V:Hid (Below (w.heap.size+1) w1 w8):=U.below o.out a d2;clear c0 c1 c2 c3 d f d2 U l hm o;have d3:=b.later V.out (Nat.lt_succ_self _);obtain⟨c0,c1,c2,c3,d,f⟩:=id d3;have d4:Hid (Row w8 (w.heap.size+1) v8 (z5h k i v n S.length ++ S.flatMap z4w ++ be D.length 1)):=d1;clear d1
   go_wp2_with fail
   clear c0 c1 c2 c3 d f d3
   go_loopw [5,60] (fun u j wl=>∃ m:Nat,m<=D.length/\j=J I m/\Hid (Row wl (w.heap.size+1) u (z5h k i v n S.length ++ S.flatMap z4w ++ be D.length 1 ++ (D.take m).flatMap (be · 1)))/\Hid (Below (w.heap.size+1) w1 wl)) (fun _ j _=>D.length - (intOf j).toNat)
   case atStart=>exact⟨0,Nat.zero_le _,rfl,by simpa using d4,V⟩
   case round =>
    obtain⟨m,hm,rfl,C,o⟩:=hrel;clear d4 V;have E:w.heap.size+1<=wr.heap.size:=Nat.le_trans a o.out.size;have e6:((D.take m).flatMap (be · 1)).length<=6:=by rw[z4X];have:=take_len D m;omega
    by_cases l:m<D.length
    ·have hcell:=e1.z3G o.out d7.out m l;have g:=z4n (be · 1) D 0 m l;obtain⟨y,hy⟩:∃ y,D.getD m 0=y:=⟨_,rfl⟩;rw[hy]at hcell g;have e:=d9.out (by omega)
     subst e;have HT:Hid _:=g;clear g hy
     go_wp2_with fail
     refine (z2A (w.heap.size+1) _ _ _ 1 1 _ rfl C.out (by omega) (by simp only[List.length_append,z1S,z0A];omega) E).mono ?_
     rintro e wb⟨vb,rfl,p,q,_⟩;have R:Hid (Below (w.heap.size+1) w1 wb):=C.out.below o.out a q
     have T:Hid (Row wb (w.heap.size+1) vb (z5h k i v n S.length ++ S.flatMap z4w ++ be D.length 1 ++ (D.take (m+1)).flatMap (be · 1))):=by
      show Row _ _ _ _
      rw[HT.out,<- List.append_assoc];exact p
     clear p q hcell;go_wp2;go_roundw
     case rel=>exact⟨m+1,by omega,by go_num,T,R⟩
     case measure=>simp[intOf];omega
    ·have e5:m=D.length:=by omega
     subst e5;have d5:Row wr (w.heap.size+1) u5 (enc k i v n S D):=by have:=C.out;rwa [List.take_length]at this
     have HF:Hid (Bl w wr):=F.out.trans (o.out.mono (Nat.le_succ _));have f4:=d5.conv
     clear d5 C o;go_wp2;go_ret2;exact⟨rfl,HF.out⟩
end Cd
namespace Cd
open Go.ChangeShapes Go.WideShapes Go.ChangeAt Go.RowKit Go.Deep
structure q3M(w:World)(S:List (Int×Int))(D:List Int)(sa da:Option Addr)(sb so db dO:Nat):Prop where
 hls:S.length<=maxLen
 hld:D.length<=maxLen
 hsa:0<S.length->sa=some ⟨sb,so,none⟩
 hda:0<D.length->da=some ⟨db,dO,none⟩
 PS:z2I w sb so S
 PD:z0F w db dO D
theorem q3M.later{w w':World}{S:List (Int×Int)}{D:List Int}{sa da:Option Addr}{sb so db dO:Nat}(h:q3M w S D sa da sb so db dO)(a:Bl w w'):q3M w' S D sa da sb so db dO:=
 ⟨h.hls,h.hld,h.hsa,h.hda,h.PS.later a,h.PD.later a⟩
section
variable {H:Type} {enc:TypeId×Value->H} {W:World}
end
end Cd
namespace Cd
open Go.RowKit
theorem q9n:(prog.info? 74).map (fun i=>(i.zero,i.size,i.bytes))=some (some (J4 #[J I 0,J I 0]),2,16):=by kernel_rfl
theorem info3:(prog.info? 3).map (fun i=>(i.zero,i.size,i.bytes))=some (some (J I 0),1,8):=by kernel_rfl
def z0s(w:World)(ao:Option Addr)(m:Nat):List Value:=(List.range m).map fun j=>(ao.bind fun a=>w.cell? (a.add j)).getD undef
def Src(w:World)(ao:Option Addr)(n size bytes:Nat):Prop:=n * bytes<=140737488351232/\(n=0∨∃ a,ao=some a/\∀ j,j<n * size->∃ u,w.cell? (a.add j)=some u)
def cpA(w:World)(n:Nat):Option Addr:=if n=0 then none else some ⟨w.heap.size,0,none⟩
def cpC(w:World)(n e:Nat):Nat:=if n=0 then 0 else grownCap w n 0 e
def cpW(w:World)(ao:Option Addr)(n size e:Nat)(z:Value):World:=if n=0 then w else w.drew.alloc (J5 ((z0s w ao (n * size)).toArray ++ Builtin.zeroCells z.cells (grownCap w n 0 e - n)) e)
theorem z5y{w:World}{a:Addr}{m:Nat}(h:∀ j,j<m->∃ u,w.cell? (a.add j)=some u):∀ j u,(z0s w (some a) m)[j]?=some u->w.cell? (a.add j)=some u:=by
 intro j u c
 have b:j<m:=by
  rcases Nat.lt_or_ge j m with h | h
  ·exact h
  ·rw[List.getElem?_eq_none (by simp[z0s];exact h)]at c;cases c
 obtain⟨v,d⟩:=h j b
 simp[z0s,b,d]at c
 rw[d,c]
theorem z2Y(t ty e:TypeId)(i:TypeInfo)(z:Value)(size bytes:Nat)(g:prog.underlying t=some (.slice e))(j:prog.info? e=some i)(k:i.zero=some z)(d:i.size=size)(f:i.bytes=bytes)
  (hb8:8<=bytes) (w:World) (ao:Option Addr) (n c:Nat) (h:Src w ao n size bytes) :
  (Builtin.append_ #[t,t] ty #[J1 none 0 0,J1 ao n c]).run prog w=.ok (.slice (cpA w n) n (cpC w n e)) (cpW w ao n size e z):=by
 by_cases h0:n=0
 ·subst h0;simp only[cpA,cpC,cpW,if_pos];cases ao <;> simp[Builtin.append_,run_underlying g,sizeOf,typeInfo,j,Builtin.lenOf,Builtin.firstCells,loadCells,loadCellsFrom]
 ·obtain⟨o,b⟩:=h
  rcases b with b | ⟨a,rfl,b⟩
  ·exact absurd b h0
  subst d f
  have l:n<=140737488351232:=by
   have:n * 1<=n * i.bytes:=Nat.mul_le_mul_left n (by omega)
   omega
  have m:=run_append_nil (P:=prog) w t ty e i z g j k a n c (z0s w (some a) (n * i.size)) (by simp[z0s]) (z5y b) (by omega) (by omega) (by omega)
  rw[m,cpA,cpC,cpW,if_neg h0,if_neg h0,if_neg h0]
theorem j1p(w:World)(ao:Option Addr)(n c:Nat)(h:Src w ao n 2 16) :
  (Builtin.append_ #[33,33] 33 #[J1 none 0 0,J1 ao n c]).run prog w=.ok (.slice (cpA w n) n (cpC w n 74)) (cpW w ao n 2 74 (J4 #[J I 0,J I 0])):=by
 obtain⟨e,f,a,b,d⟩:=info_parts q9n;exact z2Y 33 33 74 e _ 2 16 underlying33 f a b d (by omega) w ao n c h
theorem j1j(w:World)(ao:Option Addr)(n c:Nat)(h:Src w ao n 1 8) :
  (Builtin.append_ #[34,34] 34 #[J1 none 0 0,J1 ao n c]).run prog w=.ok (.slice (cpA w n) n (cpC w n 3)) (cpW w ao n 1 3 (J I 0)):=by
 obtain⟨e,f,a,b,d⟩:=info_parts info3;exact z2Y 34 34 3 e _ 1 8 underlying34 f a b d (by omega) w ao n c h
theorem z5C(w:World)(ao:Option Addr)(n size e:Nat)(z:Value):Bl w (cpW w ao n size e z):=by
 unfold cpW
 split
 ·exact Below.refl _ _
 ·exact (Below.refl _ _).drew.alloc (Nat.le_refl _) _
theorem Src.later{w w':World}{ao:Option Addr}{n size bytes:Nat}(h:Src w ao n size bytes)(b:Bl w w'):Src w' ao n size bytes:=by
 refine⟨h.1,?_⟩
 rcases h.2 with h0 | ⟨a,rfl,c⟩
 ·exact .inl h0
 ·refine .inr ⟨a,rfl,fun j d=>?_⟩;obtain⟨u,hu⟩:=c j d;exact⟨u,(b.cell (p:=a.add j) (World.block_lt_of_cell? w _ hu)).trans hu⟩
structure z1Z(w:World)(ao:Option Addr)(n size:Nat)(A:Option Addr)(C:Nat)(w':World):Prop where
 below:Bl w w'
 nil:A=none->C=0
 cap:n<=C
 cells:0<n->∃ a g,ao=some a/\A=some ⟨g,0,none⟩/\w.heap.size<=g/\∀ j,j<n * size->w'.cell? ⟨g,j,none⟩=w.cell? (a.add j)
theorem z3j(w:World)(ao:Option Addr)(n size bytes e:Nat)(z:Value)(h:Src w ao n size bytes):z1Z w ao n size (cpA w n) (cpC w n e) (cpW w ao n size e z):=by
 refine⟨z5C _ _ _ _ _ _,fun h=>?_,?_,fun h0=>?_⟩
 ·unfold cpA at h;unfold cpC;split at h
  ·rename_i h0;rw[if_pos h0]
  ·cases h
 ·unfold cpC;split
  ·omega
  ·exact grownCap_ge _ _ _ _
 rcases h.2 with d | ⟨a,rfl,c⟩
 ·omega
 refine⟨a,w.heap.size,rfl,by rw[cpA,if_neg (by omega)],Nat.le_refl _,fun j b=>?_⟩
 obtain⟨u,hu⟩:=c j b;rw[cpW,if_neg (by omega),hu,show (⟨w.heap.size,j,none⟩:Addr)=⟨w.drew.heap.size,j,none⟩ from rfl,World.cell?_alloc_at _ _ _ _ rfl]
 rw[Array.getElem?_append_left (by simp[z0s];exact b)]
 simp[z0s,b,hu]
theorem z3U{ops:Array Oper}{o:Oper}{a:Act}{w:World}{K:Act->World->Prop}{Q:Exit->Act->World->Prop}{E:Prop}(e:o.guard=none)(b:o.type=33)(s x:Operand)
  (d:o.op=Op.call { callee:=Callee.builtin Builtin.append,args:=#[s,x],argTypes:=#[33,33] }) (ao:Option Addr) (n c:Nat) (f:a.eval s=J1 none 0 0) (g:a.eval x=J1 ao n c) (h:Src w ao n 2 16)
  (i:∀ A C w',z1Z w ao n 2 A C w'->K (a.put o.dst (J1 A n C)) w') :
  if Region.wanted o (yielded ops a.tmps)=true then Oper.wp prog o a w K Q else E:=by
 have j:Region.wanted o (yielded ops a.tmps)=true:=by simp[Region.wanted,e]
 rw[if_pos j];unfold Oper.wp;have k:=j1p w ao n c h
 simp[execOp,d,resolve,invoke,builtin,f,g,b,k,Result.andThen]
 exact i _ _ _ (z3j w ao n 2 16 74 _ h)
theorem z8Q{ops:Array Oper}{o:Oper}{a:Act}{w:World}{K:Act->World->Prop}{Q:Exit->Act->World->Prop}{E:Prop}(e:o.guard=none)(b:o.type=34)(s x:Operand)
  (d:o.op=Op.call { callee:=Callee.builtin Builtin.append,args:=#[s,x],argTypes:=#[34,34] }) (ao:Option Addr) (n c:Nat) (f:a.eval s=J1 none 0 0) (g:a.eval x=J1 ao n c) (h:Src w ao n 1 8)
  (i:∀ A C w',z1Z w ao n 1 A C w'->K (a.put o.dst (J1 A n C)) w') :
  if Region.wanted o (yielded ops a.tmps)=true then Oper.wp prog o a w K Q else E:=by
 have j:Region.wanted o (yielded ops a.tmps)=true:=by simp[Region.wanted,e]
 rw[if_pos j];unfold Oper.wp;have k:=j1j w ao n c h
 simp[execOp,d,resolve,invoke,builtin,f,g,b,k,Result.andThen]
 exact i _ _ _ (z3j w ao n 1 8 3 _ h)
theorem q4I.set{w:World}{b:Nat}{k i v n:Int}{s d s' d':Value}(h:q4I w b k i v n s d):q4I ((w.setCell ⟨b,4,none⟩ s').setCell ⟨b,5,none⟩ d') b k i v n s' d':=by
 obtain⟨h0,h1,h2,h3,a,c⟩:=h;refine⟨?_,?_,?_,?_,?_,?_⟩
 ·rw[World.cell?_setCell_other _ _ _ _ (by simp),World.cell?_setCell_other _ _ _ _ (by simp)];exact h0
 ·rw[World.cell?_setCell_other _ _ _ _ (by simp),World.cell?_setCell_other _ _ _ _ (by simp)];exact h1
 ·rw[World.cell?_setCell_other _ _ _ _ (by simp),World.cell?_setCell_other _ _ _ _ (by simp)];exact h2
 ·rw[World.cell?_setCell_other _ _ _ _ (by simp),World.cell?_setCell_other _ _ _ _ (by simp)];exact h3
 ·rw[World.cell?_setCell_other _ _ _ _ (by simp)];exact World.cell?_setCell_same _ _ _ a
 ·exact World.cell?_setCell_same _ _ _ ((World.cell?_setCell_other _ _ _ _ (by simp)).trans c)
theorem so{w:World}{b i j:Nat}{v u:Value}(a:i≠j)(h:w.cell? ⟨b,j,none⟩=some u):(w.setCell ⟨b,i,none⟩ v).cell? ⟨b,j,none⟩=some u:=
 (World.cell?_setCell_other _ _ _ _ (fun e=>a (by cases e;rfl))).trans h
theorem ss{w:World}{b i:Nat}{v u:Value}(h:w.cell? ⟨b,i,none⟩=some u):(w.setCell ⟨b,i,none⟩ v).cell? ⟨b,i,none⟩=some v:=World.cell?_setCell_same _ _ _ h
def z7C(w:World)(b:Nat)(v0 v1 v2 v3 a c:Value):World:=
 (((((w.setCell ⟨b,0,none⟩ v0).setCell ⟨b,1,none⟩ v1).setCell ⟨b,2,none⟩ v2).setCell ⟨b,3,none⟩ v3).setCell ⟨b,4,none⟩ a).setCell ⟨b,5,none⟩ c
theorem q1R{w:World}{b:Nat}(v0 v1 v2 v3 a c:Value)(h:∀ o,o<6->∃ u,w.cell? ⟨b,o,none⟩=some u) :
  (z7C w b v0 v1 v2 v3 a c).cell? ⟨b,0,none⟩=some v0/\(z7C w b v0 v1 v2 v3 a c).cell? ⟨b,1,none⟩=some v1/\(z7C w b v0 v1 v2 v3 a c).cell? ⟨b,2,none⟩=some v2 /\
  (z7C w b v0 v1 v2 v3 a c).cell? ⟨b,3,none⟩=some v3/\(z7C w b v0 v1 v2 v3 a c).cell? ⟨b,4,none⟩=some a/\(z7C w b v0 v1 v2 v3 a c).cell? ⟨b,5,none⟩=some c:=by
 obtain⟨f,h0⟩:=h 0 (by omega)
 obtain⟨u1,h1⟩:=h 1 (by omega)
 obtain⟨u2,h2⟩:=h 2 (by omega)
 obtain⟨g,h3⟩:=h 3 (by omega)
 obtain⟨i,d⟩:=h 4 (by omega)
 obtain⟨j,e⟩:=h 5 (by omega)
 exact⟨so (by decide) (so (by decide) (so (by decide) (so (by decide) (so (by decide) (ss (h0)))))),so (by decide) (so (by decide) (so (by decide) (so (by decide) (ss (so (by decide) (h1)))))),so (by decide) (so (by decide) (so (by decide) (ss (so (by decide) (so (by decide) (h2)))))),so (by decide) (so (by decide) (ss (so (by decide) (so (by decide) (so (by decide) (h3)))))),so (by decide) (ss (so (by decide) (so (by decide) (so (by decide) (so (by decide) (d)))))),ss (so (by decide) (so (by decide) (so (by decide) (so (by decide) (so (by decide) (e))))))⟩
theorem z3v{B:Nat}{w0 w:World}{b:Nat}(v0 v1 v2 v3 c d:Value)(h:Below B w0 w)(a:B<=b):Below B w0 (z7C w b v0 v1 v2 v3 c d):=
 (((((h.setCell a _).setCell a _).setCell a _).setCell a _).setCell a _).setCell a _
theorem q1y{w:World}{b:Nat}(v0 v1 v2 v3 d e:Value){c:Nat}(a:c≠b):(z7C w b v0 v1 v2 v3 d e).heap[c]?=w.heap[c]?:=by
 unfold z7C;rw[Below.heap_setCell _ _ _ _ a,Below.heap_setCell _ _ _ _ a,Below.heap_setCell _ _ _ _ a,Below.heap_setCell _ _ _ _ a,Below.heap_setCell _ _ _ _ a,Below.heap_setCell _ _ _ _ a]
theorem z3s(k i v n:Int)(sa da:Option Addr)(d cs f cd:Nat)(w:World)(K:Src w sa d 2 16)(hd:Src w da f 1 8) :
  Calls prog 44 #[J4 #[J I k,J I i,J I v,J I n,J1 sa d cs,J1 da f cd]] w fun e w'=>∃ A1 C1 A2 C2 w0 w1 h,
   e=.returned (J4 #[J I k,J I i,J I v,J I n,J1 A1 d C1,J1 A2 f C2])/\Bl w w0/\w0.heap.size=w.heap.size+2/\z1Z w0 sa d 2 A1 C1 w1/\z1Z w1 da f 1 A2 C2 h /\
   Bl w w'/\(∀ b,w.heap.size+2<=b->w'.heap[b]?=h.heap[b]?):=by
 have j:Hid (∀ o A,Bl w ((w.alloc o).alloc A).drew):=fun o A=>((z0m w o).alloc (by simp) A).drew
 go_enter func44,ntmps44
 go_wp2
 go_region_law (first
  | (refine z3U rfl rfl _ _ rfl sa d cs rfl rfl (K.later (j.out _ _)) ?_;intro A1 C1 w1 a;have C:=(hd.later (j.out _ _)).later a.below;have q:=z7t a.below;have r:w.heap.size<w1.heap.size:=(by have:=a.below.size;simp at this;omega);have p:w.heap.size+1<w1.heap.size:=(by have:=a.below.size;simp at this;omega);have l:Hid _:=a;clear a)
  | (refine z8Q rfl rfl _ _ rfl da f cd rfl rfl C ?_;intro A2 C2 h g;have s:=z7t g.below;have L:w.heap.size<h.heap.size:=Nat.lt_of_lt_of_le r g.below.size;have G:w.heap.size+1<h.heap.size:=Nat.lt_of_lt_of_le p g.below.size;have m:Hid _:=g;clear g))
 all_goals
  clear q s;have t:=((z5n w k i v n (J1 sa d cs) (J1 da f cd)).later (B:=w.heap.size+1) (((Below.refl _ _).alloc (by simp) (Obj.cells #[Value.int IntKind.i64 0,Value.int IntKind.i64 0,Value.int IntKind.i64 0,Value.int IntKind.i64 0,Value.slice none 0 0,Value.slice none 0 0] 49)).drew) (Nat.lt_succ_self _))
  have x:=(t.later l.out.below (by simp;omega)).later m.out.below r
  have D:=x.set (s':=J1 A1 d C1) (d':=J1 A2 f C2)
  have E:((h.setCell ⟨w.heap.size,4,none⟩ (J1 A1 d C1)).setCell ⟨w.heap.size,5,none⟩ (J1 A2 f C2)).heap[w.heap.size+1]?=some (J5 #[Value.int IntKind.i64 0,Value.int IntKind.i64 0,Value.int IntKind.i64 0,Value.int IntKind.i64 0,Value.slice none 0 0,Value.slice none 0 0] 49):=by
   rw[Below.heap_setCell _ _ _ _ (by simp),Below.heap_setCell _ _ _ _ (by simp),m.out.below.block _ p,l.out.below.block _ (by simp)]
   have e:w.heap.size+1=(w.alloc (Obj.cells #[Value.int IntKind.i64 k,Value.int IntKind.i64 i,Value.int IntKind.i64 v,Value.int IntKind.i64 n,Value.slice sa d cs,Value.slice da f cd] 49)).heap.size:=by simp
   rw[e];exact heap_alloc_new _ _
  have y:Bl w ((h.setCell ⟨w.heap.size,4,none⟩ (J1 A1 d C1)).setCell ⟨w.heap.size,5,none⟩ (J1 A2 f C2)):=
   ((z0N (z0N (j.out _ _) l.out.below) m.out.below).setCell (Nat.le_refl _) _).setCell (Nat.le_refl _) _
  have z:∀ b,w.heap.size+2<=b->((h.setCell ⟨w.heap.size,4,none⟩ (J1 A1 d C1)).setCell ⟨w.heap.size,5,none⟩ (J1 A2 f C2)).heap[b]?=h.heap[b]?:=fun b Z=>by
   rw[Below.heap_setCell _ _ _ _ (by simp;omega),Below.heap_setCell _ _ _ _ (by simp;omega)]
  generalize ((h.setCell ⟨w.heap.size,4,none⟩ (J1 A1 d C1)).setCell ⟨w.heap.size,5,none⟩ (J1 A2 f C2))=w3 at *;obtain⟨c0,c1,c2,c3,c4,c5⟩:=D;have H:Hid (Bl w w3/\∀ b,w.heap.size+2<=b->w3.heap[b]?=h.heap[b]?):=⟨y,z⟩;have M:∀ o,w3.cell? ⟨w.heap.size+1,o,none⟩=(#[Value.int IntKind.i64 0,Value.int IntKind.i64 0,Value.int IntKind.i64 0,Value.int IntKind.i64 0,Value.slice none 0 0,Value.slice none 0 0]:Array Value)[o]?:=fun o=>by simp[World.cell?,E]
  have z1:∀ o,w3.frozen? ⟨w.heap.size+1,o,none⟩=false:=fun o=>by simp[World.frozen?,E]
  clear E y z t x;have hex:∀ o,o<6->∃ u,w3.cell? ⟨w.heap.size+1,o,none⟩=some u:=fun o N=>by rw[M];exact⟨_,Array.getElem?_eq_getElem (by simpa using N)⟩
  have F:Hid _:=hex;clear hex;go_wp2;have P:=q1R (w:=w3) (b:=w.heap.size+1) (J I k) (J I i) (J I v) (J I n) (J1 A1 d C1) (J1 A2 f C2) F.out
  show bodyPost prog f44 _ Exit.ret _ (z7C w3 (w.heap.size+1) (J I k) (J I i) (J I v) (J I n) (J1 A1 d C1) (J1 A2 f C2))
  have Q:=z3v (b:=w.heap.size+1) (J I k) (J I i) (J I v) (J I n) (J1 A1 d C1) (J1 A2 f C2) H.out.1 (Nat.le_succ _);have R:=fun c (S:w.heap.size+2<=c)=>(q1y (w:=w3) (b:=w.heap.size+1) (J I k) (J I i) (J I v) (J I n) (J1 A1 d C1) (J1 A2 f C2) (show c≠w.heap.size+1 by omega)).trans (H.out.2 c S)
  generalize z7C w3 (w.heap.size+1) (J I k) (J I i) (J I v) (J I n) (J1 A1 d C1) (J1 A2 f C2)=w4 at *;obtain⟨T,U,V,W,X,Y⟩:=P
  exact bodyPost_ret (v:=J4 #[J I k,J I i,J I v,J I n,J1 A1 d C1,J1 A2 f C2]) (by simp[results,results44,go_sem,T,U,V,W,X,Y]) rfl
   ⟨A1,C1,A2,C2,_,w1,h,rfl,j.out _ _,by simp,l.out,m.out,Q,R⟩
end Cd
namespace Pv
open Go.RowKit
section
variable {P:Nat->Prop} {w w':World} {v:Value} {sz bts:Nat} {cs:List Value}
theorem Rep.src{n C:Nat}{A:Option Addr}(h:Rep P w (J1 A n C) sz bts cs):Cd.Src w A n sz bts:=by
 obtain⟨A',m,C',h1,h2,h3,e,c⟩:=h;cases h1;refine⟨h3,?_⟩
 rcases Nat.eq_zero_or_pos n with h0 | h0
 ·exact .inl h0
 ·obtain⟨b,off,rfl,_,_,d⟩:=c h0;refine .inr ⟨_,rfl,fun j f=>?_⟩;have a:j<cs.length:=by omega
  exact⟨cs[j],by rw[Addr.add_lit];exact d j _ (List.getElem?_eq_getElem a)⟩
theorem Rep.copied{n C C1:Nat}{A A1:Option Addr}{w1:World}(h:Rep P w (J1 A n C) sz bts cs)(i:0<sz)(e:Cd.z1Z w A n sz A1 C1 w1)(k:∀ b,w.heap.size<=b->w'.heap[b]?=w1.heap[b]?):Rep (fun b=>w.heap.size<=b) w' (J1 A1 n C1) sz bts cs:=by
 obtain⟨A',m,C',h1,h2,h3,q,l⟩:=h;cases h1;refine⟨A1,n,C1,rfl,h2,h3,⟨e.nil,e.cap⟩,fun h0=>?_⟩;obtain⟨b,off,rfl,_,_,hcell⟩:=l h0;obtain⟨a,g,o,rfl,f,p⟩:=e.cells h0;cases o
 have key:∀ j u,cs[j]?=some u->w'.cell? ⟨g,0+j,none⟩=some u:=fun j u hu=>by
  have c:=(List.getElem?_eq_some_iff.1 hu).1;rw[Nat.zero_add,World.cell?_of_block (w:=w1) (a:=⟨g,j,none⟩) (k g f),p j (by omega),Addr.add_lit]
  exact hcell j u hu
 have d:0<cs.length:=by rw[h2];exact Nat.mul_pos h0 i
 have c:g<w'.heap.size:=World.block_lt_of_cell? w' _ (key 0 cs[0] (List.getElem?_eq_getElem d));exact⟨g,0,rfl,f,c,key⟩
theorem Rep.cellsOf{A:Option Addr}{n C:Nat}(h:Rep P w v sz bts cs)(c:v=J1 A n C):∀ a,A=some a->∀ j u,cs[j]?=some u->w.cell? (a.add j)=some u:=by
 subst c;obtain⟨A',m,C',h1,h2,h3,i,d⟩:=h;cases h1;intro a e j u hu
 rcases Nat.eq_zero_or_pos n with h0 | h0
 ·subst h0;have:=(List.getElem?_eq_some_iff.1 hu).1;omega
 ·obtain⟨b,off,f,_,_,g⟩:=d h0;rw[f]at e;cases e;rw[Addr.add_lit];exact g j u hu
theorem Rep.line{x:Ln.Line}{v1 v2:Value}(h1:Rep P w v1 1 16 (txC x.S))(h2:Rep P w v2 1 8 (inC x.D)):∃ A1 C1 A2 C2 sb so db dO,v1=J1 A1 x.S.length C1/\v2=J1 A2 x.D.length C2/\Ln.LAt w x A1 A2 C1 C2 sb so db dO/\(0<x.S.length->P sb)/\(0<x.D.length->P db):=by
 obtain⟨A1,j,C1,k,l,m,n,o⟩:=h1;obtain⟨A2,p,C2,b1,b2,b3,q,r⟩:=h2;rw[z4E]at l;rw[z0M]at b2;have s:j=x.S.length:=by omega
 have t:p=x.D.length:=by omega
 subst s t
 have u:∃ sb so,(0<x.S.length->A1=some ⟨sb,so,none⟩/\P sb)/\Ln.z3c w sb so x.S:=by
  rcases Nat.eq_zero_or_pos x.S.length with h0 | h0
  ·exact⟨0,0,fun h=>by omega,fun i a=>by omega⟩
  ·obtain⟨b,off,e,c,_,d⟩:=o h0;exact⟨b,off,fun _=>⟨e,c⟩,fun i a=>d i _ (q2Q _ i a)⟩
 have hd:∃ db dO,(0<x.D.length->A2=some ⟨db,dO,none⟩/\P db)/\Ln.z0F w db dO x.D:=by
  rcases Nat.eq_zero_or_pos x.D.length with h0 | h0
  ·exact⟨0,0,fun h=>by omega,fun i a=>by omega⟩
  ·obtain⟨b,off,e,c,_,d⟩:=r h0;exact⟨b,off,fun _=>⟨e,c⟩,fun i a=>d i _ (z3f _ i a)⟩
 obtain⟨sb,so,f,v⟩:=u;obtain⟨db,dO,g,y⟩:=hd;exact⟨A1,C1,A2,C2,sb,so,db,dO,k,b1,⟨m,b3,fun h=>(f h).1,fun h=>(g h).1,n.1,q.1,v,y⟩,fun h=>(f h).2,fun h=>(g h).2⟩
theorem Rep.lies{S:List (Int×Int)}{D:List Int}{v1 v2:Value}(h1:Rep P w v1 2 16 (pwC S))(h2:Rep P w v2 1 8 (inC D)):∃ A1 C1 A2 C2 sb so db dO,v1=J1 A1 S.length C1/\v2=J1 A2 D.length C2/\Cd.q3M w S D A1 A2 sb so db dO:=by
 obtain⟨A1,d,C1,f,g,u,v,j⟩:=h1;obtain⟨A2,k,C2,b1,b2,b3,x,l⟩:=h2;rw[z0r]at g;rw[z0M]at b2;have m:d=S.length:=by omega
 have n:k=D.length:=by omega
 subst m n
 have o:∃ sb so,(0<S.length->A1=some ⟨sb,so,none⟩)/\Cd.z2I w sb so S:=by
  rcases Nat.eq_zero_or_pos S.length with h0 | h0
  ·exact⟨0,0,fun h=>by omega,fun i a=>by omega⟩
  ·obtain⟨b,off,e,p,_,c⟩:=j h0;exact⟨b,off,fun _=>e,fun i a=>⟨c _ _ (z2t _ i a).1,c _ _ (z2t _ i a).2⟩⟩
 have hd:∃ db dO,(0<D.length->A2=some ⟨db,dO,none⟩)/\Cd.z0F w db dO D:=by
  rcases Nat.eq_zero_or_pos D.length with h0 | h0
  ·exact⟨0,0,fun h=>by omega,fun i a=>by omega⟩
  ·obtain⟨b,off,e,p,_,c⟩:=l h0;exact⟨b,off,fun _=>e,fun i a=>c i _ (z3f _ i a)⟩
 obtain⟨sb,so,q,r⟩:=o;obtain⟨db,dO,s,t⟩:=hd;exact⟨A1,C1,A2,C2,sb,so,db,dO,f,b1,⟨by unfold maxLen;omega,by unfold maxLen;omega,q,s,r,t⟩⟩
end
theorem q2p(k i v n:Int)(S:List (Int×Int))(D:List Int)(y1 y2:Value)(P:Nat->Prop)(w:World)(h1:Rep P w y1 2 16 (pwC S))(h2:Rep P w y2 1 8 (inC D)) :
  Calls prog 44 #[J4 #[J I k,J I i,J I v,J I n,y1,y2]] w fun e w'=>∃ f g,
   e=.returned (J4 #[J I k,J I i,J I v,J I n,f,g])/\Rep (fun b=>w.heap.size<=b) w' f 2 16 (pwC S)/\Rep (fun b=>w.heap.size<=b) w' g 1 8 (inC D)/\Bl w w':=by
 obtain⟨A1,h,C1,rfl,z⟩:=id h1;obtain⟨A2,j,C2,rfl,b2⟩:=id h2;refine (Cd.z3s k i v n A1 A2 h C1 j C2 w h1.src h2.src).mono ?_;rintro e w'⟨o,p,q,r,w0,w1,s,rfl,a,t,c,l,u,m⟩;have x:=h1.over a;have y:=(h2.over a).over c.below;refine⟨_,_,rfl,?_,?_,u⟩
 ·have r1:Rep (fun b=>w0.heap.size<=b) w1 (J1 o h p) 2 16 (pwC S):=x.copied (by decide) c (fun _ _=>rfl)
  refine ((r1.over l.below).keep (w':=w') fun b d _=>m b (by omega)).mono fun b _ d=>?_
  omega
 ·have r2:Rep (fun b=>w1.heap.size<=b) s (J1 q j r) 1 8 (inC D):=y.copied (by decide) l (fun _ _=>rfl)
  refine (r2.keep (w':=w') fun b d _=>m b (by have:=c.below.size;omega)).mono fun b _ d=>?_
  have:=c.below.size;omega
theorem q4H:(prog.info? 74).map (fun i=>(i.zero,i.size,i.bytes))=some (some (J4 #[J I 0,J I 0]),2,16):=by kernel_rfl
theorem q9e:(prog.info? 3).map (fun i=>(i.zero,i.size,i.bytes))=some (some (J I 0),1,8):=by kernel_rfl
theorem q8o(l:List Int):∀ u∈inC l,u.oneCell'=true:=Ln.q0f l
theorem q3F(a x c y:List Value)(h:x.length=y.length):spl (a ++ (x ++ c)).toArray a.length y=(a ++ (y ++ c)).toArray:=by
 apply Array.ext_getElem?;intro i;rw[z9l _ _ _ _ (by simp;omega)]
 simp only[List.getElem?_toArray]
 by_cases h1:i<a.length
 ·rw[if_neg (by omega),List.getElem?_append_left h1,List.getElem?_append_left h1]
 ·obtain⟨j,rfl⟩:∃ j,i=a.length+j:=⟨i - a.length,by omega⟩
  have e:∀ z:List Value,(a ++ z)[a.length+j]?=z[j]?:=fun z=>by rw[List.getElem?_append_right (by omega),Nat.add_sub_cancel_left]
  rw[e,e,Nat.add_sub_cancel_left]
  by_cases h2:j<y.length
  ·rw[if_pos ⟨by omega,by omega⟩,List.getElem?_append_left h2]
  ·rw[if_neg (by omega),List.getElem?_append_right (by omega),List.getElem?_append_right (by omega),h]
theorem q1U{P:Program}{ops:Array Oper}{rest:List Oper}{o:Oper}{a:Act}{w:World}{Q:Exit->Act->World->Prop}
  (f:o.guard=none) (s x:Operand) (t:TypeId) (g:o.op=Op.call { callee:=Callee.builtin Builtin.append,args:=#[s,x],argTypes:=#[t,t] })
  (base:Nat) (e:TypeId) (i:TypeInfo) (z:Value) (size bytes:Nat) (h1:P.underlying t=some (.slice e)) (h2:P.info? e=some i) (h3:i.zero=some z) (q:i.size=size) (r:i.bytes=bytes) (y:z.cells.size=size) (B:0<size)
  (v:Value) (n:Nat) (h:List Value) (D:a.eval s=v) (hown:w.ownsRow base e size v n h)
  (ao:Option Addr) (m c:Nat) (b:List Value) (F:a.eval x=J1 ao m c) (G:b.length=m * size) (d:ao=none->m=0/\c=0) (H:∀ p,ao=some p->∀ j u,b[j]?=some u->w.cell? (p.add j)=some u) (k:∀ u∈b,u.oneCell'=true)
  (b1:n+m<=maxLen) (b2:(n+m) * bytes<=140737488355328) (b3:base<=w.heap.size)
  (L:∀ A C w',w'.ownsRow base e size (J1 A (n+m) C) (n+m) (h ++ b)->w.grownBy w' v.ownBlock->wpList P ops Q rest (a.put o.dst (J1 A (n+m) C)) w'):wpList P ops Q (o :: rest) a w:=by
 refine wpList_plain f fun K l=>?_;have:=Ln.z2Q (P:=P) (ops:=ops) (o:=o) (a:=a) (w:=w) (K:=K) (Q:=Q) (E:=False) f s x t g base e i z size bytes h1 h2 h3 q r y B v n h D hown ao m c b F G d H k b1 b2 b3 (fun A C w' r1 r2=>l _ _ (L A C w' r1 r2));have M:Region.wanted o (yielded ops a.tmps)=true:=by simp[Region.wanted,f]
 rwa [if_pos M]at this
theorem set_mid(a x c:List Value)(n j:Nat)(u:Value)(b:a.length=n)(d:j<x.length):((a ++ (x ++ c)).toArray).setIfInBounds (n+j) u=(a ++ (x.set j u ++ c)).toArray:=by
 subst b;rw[List.setIfInBounds_toArray,List.set_append_right _ _ (by omega),Nat.add_sub_cancel_left,List.set_append_left _ _ d]
def Join(A:Act)(R:World->Prop)(ex:Exit)(a:Act)(w:World):Prop:=ex=Exit.normal/\a=A/\R w
theorem z2d{P:Program}{c:Code}{Q:Exit->Act->World->Prop}{a:Act}{w:World}(R:World->Prop)(A:Act)(h1:Code.wp P c (Join A R) a w)(h2:∀ w',R w'->Q Exit.normal A w'):Code.wp P c Q a w:=
 Code.wp_mono (fun e b w' h=>by obtain⟨rfl,rfl,h⟩:=h;exact h2 w' h) h1
def j0y(A:Value->Act)(R:Value->World->Prop)(ex:Exit)(a:Act)(w:World):Prop:=∃ x,ex=Exit.normal/\a=A x/\R x w
theorem z5b{P:Program}{c:Code}{Q:Exit->Act->World->Prop}{a:Act}{w:World}(R:Value->World->Prop)(A:Value->Act)(h1:Code.wp P c (j0y A R) a w)(h2:∀ x w',R x w'->Q Exit.normal (A x) w'):Code.wp P c Q a w:=
 Code.wp_mono (fun e b w' h=>by obtain⟨x,rfl,rfl,h⟩:=h;exact h2 x w' h) h1
end Pv
namespace Cd
open Go.RowKit
def j1u(a:Int)(l:List Int):Int:=l.foldl (fun n c=>n * 256+c) a
theorem q3u(m:Nat):(2:Int) ^ (8 * (m+1))=2 ^ (8 * m) * 256:=by
 rw[show 8 * (m+1)=8 * m+8 by omega,Int.pow_add];rfl
theorem z9y(m:Nat):(0:Int)<2 ^ (8 * m):=Int.pow_pos (by decide)
theorem z9a{k i v n:Int}{S:List (Int×Int)}{D:List Int}(h:z0o k i v n S D=0) :
  1<=k/\k<=4/\1<=i/\i<=1099511627776/\0<=v/\v<6/\0<=n/\n<=1125899906842624:=by
 have e:∀ {k v n:Int} {a b:Nat},z3N k=false->z4x k v n a b=false->v=0/\n=0:=by
  intro k v n a b h1 h2;simp only[z4x,h1,Bool.or_eq_false_iff,Bool.and_eq_false_iff]at h2
  simp at h2
  exact h2.1
 rcases z3P k i v n S D with c | c | ⟨h1,h2,c | c | ⟨h3,g,c | c | c | ⟨d | d,c | c | c | c⟩⟩⟩
 all_goals first | (exfalso;omega) | skip
 ·have f:isV v=true:=d.2.1;simp only[isV,decide_eq_true_eq]at f;omega
 ·obtain⟨j,l⟩:=e d c.1;omega
theorem q0N(S:List (Int×Int)):∀ last:Int,-1<=last->z0e last S=true->∀ p∈S,0<=p.1/\p.1<6/\0<=p.2/\p.2<=1125899906842624:=by
 induction S with
 | nil=>simp
 | cons x t ih =>
  intro last hl h p a;simp only[z0e,Bool.and_eq_true,decide_eq_true_eq,isV]at h;obtain⟨⟨⟨⟨h1,h2⟩,h3⟩,c⟩,b⟩:=h
  rcases List.mem_cons.1 a with rfl | a
  ·omega
  ·exact ih x.1 (by omega) b p a
theorem z8Z(D:List Int):∀ last:Int,-1<=last->z0k last D=true->∀ p∈D,0<=p/\p<6:=by
 induction D with
 | nil=>simp
 | cons x t ih =>
  intro last hl h p a;simp only[z0k,Bool.and_eq_true,decide_eq_true_eq,isV]at h;obtain⟨⟨h1,h2⟩,h3⟩:=h
  rcases List.mem_cons.1 a with rfl | a
  ·omega
  ·exact ih x (by omega) h3 p a
end Cd
section
open Go.RowKit
theorem q5w(g cap:Nat)(l:List Pw)(w:World)(h:z1w w g l)(hn:l.length<=12) :
  Calls prog 126 #[J1 (some ⟨g,0,none⟩) l.length cap,J I 0,J I (l.length:Int),.func (.func 38) #[] #[]] w fun e w'=>e=.returned (.tuple #[])/\z1w w' g (z1D ltP l)/\z2g g w w':=by
 have z:=J6 h;clear h
 go_enter func126,ntmps126
 go_wp2
 go_loopw [8] (fun i wl=>∃ m:Nat,i=J I ((m:Int)+1)/\(m+1<=l.length∨m=0)/\Hid (z1w wl g (z1l ltP l m)/\z2g g w wl)) (fun i _=>l.length - (intOf i).toNat)
 case atStart=>exact⟨0,rfl,.inr rfl,z.out,z2g.refl _ _⟩
 case round =>
  obtain⟨m,rfl,S,C⟩:=hrel
  by_cases T:m+1<l.length
  ·rename World=>wo
   have L:(m:Int)+1<(l.length:Int):=by omega
   go_wp2_with fail
   go_loopw [9] (fun j wl=>∃ (p:Nat) (a:List Pw),j=J I (p:Int)/\p<=m+1/\a.length=l.length/\Hid (z5X ltP (m+1) (z1l ltP l m)=z5X ltP p a/\z1w wl g a/\z2g g w wl)) (fun j _=>(intOf j).toNat)
   case atStart=>exact⟨m+1,z1l ltP l m,by go_num,Nat.le_refl _,z1z _ _ _,rfl,C.out⟩
   case round =>
    obtain⟨p,a,rfl,hp,D,d⟩:=hrel;have U:w.heap.size<=wr.heap.size:=d.out.2.2.size;cases p with
    | zero =>
     have E:decide ((0:Int)<0)=false:=by decide
     go_upto_region 4 with fail
     go_quiet (fail);go_wp2;go_roundw
     case rel=>exact⟨m+1,by go_num,.inl (by omega),(by rw[z1l,d.out.1];exact d.out.2.1),(show z2g g w (wr.drewN nq) from d.out.2.2.drewN nq)⟩
     case measure=>simp[intOf];omega
    | succ p =>
     have o:p+1<a.length:=by omega
     obtain⟨c0,c1⟩:=d.out.2.1.cell (i:=p+1) o;obtain⟨V,W⟩:=d.out.2.1.cell (i:=p) (by omega)
     have M:=z9h (a.getD (p+1) pz) (a.getD p pz);have F:=d.out.2.1.lt;have s:Hid (z5X ltP (m+1) (z1l ltP l m)=if ltP (a.getD (p+1) pz) (a.getD p pz)=true then z5X ltP p (swapAt a p) else a):=d.out.1;have k:Hid (ltP (a.getD (p+1) pz) (a.getD p pz)=decide (q7R (a.getD (p+1) pz) (a.getD p pz)<0)):=rfl;have c:=J6 d.out.2;clear d;generalize q7R (a.getD (p+1) pz) (a.getD p pz)=r at *;generalize N:a.getD (p+1) pz=A at *;generalize P:a.getD p pz=B at *;have X:=J6 N;have Y:=J6 P;clear N P;have Z:IntKind.i64.wrap (((p+1:Nat):Int) - 1)=(p:Int):=by rw[show ((p+1:Nat):Int) - 1=(p:Int) by omega];exact z5V (by omega) (by omega)
     generalize hq:p+1=q at *;have n:=J6 hq;clear hq;have a0:(0:Int)<=(q:Int):=by omega
     have a1:(q:Int)<(l.length:Int):=by omega
     have a2:(0:Int)<=(p:Int):=by omega
     have a3:(p:Int)<(l.length:Int):=by have:=n.out;omega
     have E:decide (0<q)=true:=by have:=n.out;simp;omega
     go_upto_region 4 with fail
     go_region_held3 (fun wx=>wx.cell? ⟨g,q * 2,none⟩=some (J I A.1)/\wx.cell? ⟨g,q * 2+1,none⟩=some (J I A.2)/\wx.cell? ⟨g,p * 2,none⟩=some (J I B.1)/\wx.cell? ⟨g,p * 2+1,none⟩=some (J I B.2)) (first | go_keep | (refine⟨?_,?_,?_,?_⟩ <;> (rw[f.cell F];simp[*])))
      (first | (go_at_call 38;refine (M _).mono ?_;rintro e w1⟨rfl,f⟩))
     rename_i hh;obtain⟨a4,a5,a6,a7⟩:=hh;have b:=c.out.1.later (w':=w1) (show Bl wr w1 from ((Below.refl _ wr).drew.trans f));have t:z2g g w w1:=c.out.2.trans (z2g.of_below (show Bl wr w1 from ((Below.refl _ wr).drew.trans f)));have u:=J6 b;have v:=J6 t;have f0:=b.free (q * 2);have f1:=b.free (q * 2+1);have f2:=b.free (p * 2);have f3:=b.free (p * 2+1);clear b t f c0 c1 V W c M
     by_cases Q:r<0
     ·have hd:decide (r<0)=true:=by simpa using Q
      rw[hd];have G:=n.out;have n1:¬ p=q:=by omega
      have n2:¬ q=p:=by omega
      have n3:¬ p * 2=q * 2+1:=by omega
      have n4:¬ q * 2=p * 2+1:=by omega
      have n5:¬ p * 2+1=q * 2:=by omega
      have n6:¬ q * 2+1=p * 2:=by omega
      have n7:¬ p * 2=q * 2:=by omega
      have n8:¬ q * 2=p * 2:=by omega
      clear G
      go_upto_region 6 with fail
      go_region;have x:(a.set q B).set p A=swapAt a p:=by rw[swapAt,n.out,X.out,Y.out]
      have H:Hid (z1w (((((w1.setCell ⟨g,q * 2,none⟩ (J I B.1)).setCell ⟨g,q * 2+1,none⟩ (J I B.2)).setCell ⟨g,p * 2,none⟩ (J I A.1)).setCell ⟨g,p * 2+1,none⟩ (J I A.2)).drew) g (swapAt a p)):=by
       rw[<- x];exact (u.out.put o B).put (by simp;omega) A
      have K:Hid (z2g g w (((((w1.setCell ⟨g,q * 2,none⟩ (J I B.1)).setCell ⟨g,q * 2+1,none⟩ (J I B.2)).setCell ⟨g,p * 2,none⟩ (J I A.1)).setCell ⟨g,p * 2+1,none⟩ (J I A.2)).drew)):=((((v.out.set _ _).set _ _).set _ _).set _ _).drew;have y:Hid (z5X ltP (m+1) (z1l ltP l m)=z5X ltP p (swapAt a p)):=by rw[s.out,k.out,hd];exact if_pos rfl
      clear x;generalize ((((w1.setCell ⟨g,q * 2,none⟩ (J I B.1)).setCell ⟨g,q * 2+1,none⟩ (J I B.2)).setCell ⟨g,p * 2,none⟩ (J I A.1)).setCell ⟨g,p * 2+1,none⟩ (J I A.2)).drew=w2 at *;go_wp2;go_roundw
      case rel=>exact⟨p,swapAt a p,rfl,by have:=n.out;omega,(by rw[z2p];exact D),y.out,H.out,K.out⟩
      case measure=>have:=n.out;simp[intOf];omega
     ·have hd:decide (r<0)=false:=by simpa using Q
      rw[hd];have y:Hid (z5X ltP (m+1) (z1l ltP l m)=a):=by rw[s.out,k.out,hd];exact if_neg (by simp)
      go_wp2;go_roundw
      case rel=>exact⟨m+1,by go_num,.inl (by omega),(by rw[z1l,y.out];exact u.out),v.out⟩
      case measure=>simp[intOf];omega
  ·have R:z1D ltP l=z1l ltP l m:=by
    unfold z1D
    rcases S with h | rfl
    ·rw[show l.length - 1=m by omega]
    ·rcases (show l.length=0∨l.length=1 by omega) with h | h <;> rw[h]
   have y:=J6 R;clear R;go_wp2;go_end0;exact⟨rfl,by rw[y.out];exact C.out.1,C.out.2⟩
theorem j0K(g cap:Nat)(c:Int)(l:List Pw)(w:World)(h:z1w w g l)(f:l.length<=12) :
  Calls prog 86 #[J1 (some ⟨g,0,none⟩) l.length cap,J I 0,J I (l.length:Int),J I c,.func (.func 38) #[] #[]] w fun e w'=>e=.returned (.tuple #[])/\z1w w' g (z1D ltP l)/\z2g g w w':=by
 have i:=q5w g cap l w h f;have j:(l.length:Int)<=12:=by omega
 clear h
 go_enter func86,ntmps86
 go_wp2_with fail
 go_loopw [1,2] (fun a b wl=>a=J I 0/\b=J I (l.length:Int)/\Hid (wl=w)) (fun _ _ _=>0)
 case atStart=>exact⟨rfl,rfl,rfl⟩
 case round =>
  obtain⟨rfl,rfl,d⟩:=hrel;have e:=d.out;subst e;clear d
  go_wp2_with (go_at_call 126;refine i.mono ?_;rintro e w1⟨rfl,h1⟩;have k:=J6 h1;clear h1)
  exact bodyPost_ret (v:=.tuple #[]) (by simp[results,results86]) rfl ⟨rfl,k.out⟩
theorem z8q(n:Nat)(b:n<=12)(w:World):Calls prog 87 #[.int .u64 (n:Int)] w fun e w'=>(∃ k,e=.returned (J I k))/\w=w':=by
 have a:=Ra.q6h n (by omega)
 go_enter func87,ntmps87
 go_wp2_with (go_at_call 135;refine (a _).mono ?_;rintro e w1⟨rfl,rfl⟩)
 go_ret;exact⟨⟨_,rfl⟩,rfl⟩
theorem q7u(g cap:Nat)(l:List Pw)(w:World)(h:z1w w g l)(b:l.length<=12) :
  Calls prog 37 #[J1 (some ⟨g,0,none⟩) l.length cap,.func (.func 38) #[] #[]] w fun e w'=>e=.returned (.tuple #[])/\z1w w' g (z1D ltP l)/\z2g g w w':=by
 have c:=fun a=>j0K g cap a l w h b;have d:=z8q l.length b w;clear h
 go_enter func37,ntmps37
 go_wp2_with (first
  | (go_at_call 87;refine d.mono ?_;rintro e w1⟨⟨k,rfl⟩,rfl⟩)
  | (go_at_call 86;refine (c _).mono ?_;rintro e i⟨rfl,h1⟩;have f:=J6 h1;clear h1))
 go_end0;exact⟨rfl,f.out⟩
end
end Go.Proofs.YtjghbciepinofaaGreat
