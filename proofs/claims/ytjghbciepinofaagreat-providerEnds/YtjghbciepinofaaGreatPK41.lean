/- Parts of the proof. -/
import Derived.Test.YtjghbciepinofaaGreatPL
import Derived.WalkKit
import Derived.Below
import Derived.BigQuiet
import Derived.Deep.QuietTactic
import Derived.WalkSmall
import Derived.Maps.AppendAt
import Derived.LoopN
import Derived.Laws.MathBits
import Derived.Laws.Bits64b
import Derived.ProofKit
set_option maxRecDepth 100000
set_option maxHeartbeats 16000000
namespace Go.Proofs.YtjghbciepinofaaGreat
open Go.Proofs.Tryz
open Value renaming int->J,slice->J1,pointer->J2,bool->J3,agg->J4
open IntKind renaming i64->I
open Obj renaming cells->J5
section
open Go.RowKit
theorem z1o(b:Nat)(w:World):Calls prog 122 #[J2 (some ⟨b,0,none⟩)] w fun e w'=>e=.returned (J2 (some ⟨b,4,none⟩))/\w=w':=by
 go_enter func122,ntmps122
 go_wp2;go_ret;exact⟨rfl,rfl⟩
theorem z1b(b:Nat)(w:World):Calls prog 123 #[J2 (some ⟨b,0,none⟩)] w fun e w'=>e=.returned (J2 (some ⟨b,5,none⟩))/\w=w':=by
 go_enter func123,ntmps123
 go_wp2;go_ret;exact⟨rfl,rfl⟩
theorem z3x(b:Nat)(w:World):Calls prog 124 #[J2 (some ⟨b,0,none⟩)] w fun e w'=>e=.returned (J2 (some ⟨b,6,none⟩))/\w=w':=by
 go_enter func124,ntmps124
 go_wp2;go_ret;exact⟨rfl,rfl⟩
theorem q3n(b c:Nat)(d:Int)(w:World)(h0:0<=d)(h1:d<4)(a:w.cell? ⟨c,0,none⟩=some (J I d)) :
  Calls prog 125 #[J2 (some ⟨b,0,none⟩),J2 (some ⟨c,0,none⟩)] w fun e w'=>e=.returned (J2 (some ⟨b,d.toNat,none⟩))/\∃ nq,w'=w.drewN nq:=by
 go_enter func125,ntmps125
 go_wp2_with fail
 go_quiet (fail);go_wp2;go_ret;exact⟨rfl,_,rfl⟩
theorem z4B(w:World):Calls prog 82 #[] w fun e w'=>e=.returned (.func (.func 122) #[] #[])/\w=w':=by
 go_enter func82,ntmps82
 go_wp2;go_ret;exact⟨rfl,rfl⟩
theorem z3L(w:World):Calls prog 83 #[] w fun e w'=>e=.returned (.func (.func 123) #[] #[])/\w=w':=by
 go_enter func83,ntmps83
 go_wp2;go_ret;exact⟨rfl,rfl⟩
theorem z5L(w:World):Calls prog 84 #[] w fun e w'=>e=.returned (.func (.func 124) #[] #[])/\w=w':=by
 go_enter func84,ntmps84
 go_wp2;go_ret;exact⟨rfl,rfl⟩
theorem z4F(d:Int)(w:World):Calls prog 85 #[J I d] w fun e w'=>e=.returned (.func (.func 125) #[] #[J2 (some ⟨w.heap.size,0,none⟩)])/\w'=w.alloc (J5 #[J I d] 3):=by
 have b:∀ (a:Fn) (first cap:Array Value) (w:World),(Instr.makeFunc a first cap).run prog w=.ok (.func a first cap) w:=fun _ _ _ _=>rfl
 go_enter func85,ntmps85
 go_wp2;go_ret;exact⟨rfl,rfl⟩
theorem z4k(d:Int)(w:World):Calls prog 113 #[J I d] w fun e w'=>e=.returned (J3 (decide (0<=d/\d<4)))/\w=w':=by
 by_cases h0:0<=d
 ·by_cases h1:d<4
  ·rw[decide_eq_true ⟨h0,h1⟩]
   go_enter func113,ntmps113
   go_wp2;go_ret;exact⟨rfl,rfl⟩
  ·rw[decide_eq_false (fun h=>h1 h.2)];have h2:4<=d:=by omega
   go_enter func113,ntmps113
   go_wp2;go_ret;exact⟨rfl,rfl⟩
 ·rw[decide_eq_false (fun h=>h0 h.1)];have h2:d<0:=by omega
  go_enter func113,ntmps113
  go_wp2;go_ret;exact⟨rfl,rfl⟩
theorem z1q(d:Int)(w:World):Calls prog 121 #[J I d] w fun e w'=>e=.returned (J3 (decide (0<=d/\d<=1125899906842624)))/\w=w':=by
 by_cases h0:0<=d
 ·by_cases h1:d<=1125899906842624
  ·rw[decide_eq_true ⟨h0,h1⟩]
   go_enter func121,ntmps121
   go_wp2;go_ret;exact⟨rfl,rfl⟩
  ·rw[decide_eq_false (fun h=>h1 h.2)];have h2:1125899906842624<d:=by omega
   go_enter func121,ntmps121
   go_wp2;go_ret;exact⟨rfl,rfl⟩
 ·rw[decide_eq_false (fun h=>h0 h.1)];have h2:d<0:=by omega
  go_enter func121,ntmps121
  go_wp2;go_ret;exact⟨rfl,rfl⟩
end
section
open Go.RowKit
def BAt(w:World)(b:Nat)(f0 f1 f2 f3 bo wa bu:Int):Prop:=w.heap[b]?=some (J5 #[J I f0,J I f1,J I f2,J I f3,J I bo,J I wa,J I bu] 24)
section
variable {w w':World} {b B:Nat} {f0 f1 f2 f3 bo wa bu:Int}
theorem BAt.later(h:BAt w b f0 f1 f2 f3 bo wa bu)(a:Below B w w')(c:b<B):BAt w' b f0 f1 f2 f3 bo wa bu:=(a.block b c).trans h
theorem BAt.new(w:World)(f0 f1 f2 f3 bo wa bu:Int):BAt (w.alloc (J5 #[J I f0,J I f1,J I f2,J I f3,J I bo,J I wa,J I bu] 24)) w.heap.size f0 f1 f2 f3 bo wa bu:=heap_alloc_new _ _
theorem BAt.other{c o:Nat}(h:BAt w b f0 f1 f2 f3 bo wa bu)(a:b≠c)(v:Value):BAt (w.setCell ⟨c,o,none⟩ v) b f0 f1 f2 f3 bo wa bu:=(Below.heap_setCell _ _ _ _ a).trans h
theorem BAt.alloc(h:BAt w b f0 f1 f2 f3 bo wa bu)(o:Obj):BAt (w.alloc o) b f0 f1 f2 f3 bo wa bu:=(Below.heap_alloc _ _ _ (Array.getElem?_eq_some_iff.1 h).1).trans h
theorem BAt.lt(h:BAt w b f0 f1 f2 f3 bo wa bu):b<w.heap.size:=(Array.getElem?_eq_some_iff.1 h).1
theorem BAt.cells(h:BAt w b f0 f1 f2 f3 bo wa bu):w.cell? ⟨b,0,none⟩=some (J I f0)/\w.cell? ⟨b,1,none⟩=some (J I f1)/\w.cell? ⟨b,2,none⟩=some (J I f2)/\w.cell? ⟨b,3,none⟩=some (J I f3)/\w.cell? ⟨b,4,none⟩=some (J I bo)/\w.cell? ⟨b,5,none⟩=some (J I wa)/\w.cell? ⟨b,6,none⟩=some (J I bu):=by
 unfold BAt at h
 simp[World.cell?,h]
theorem BAt.frees(h:BAt w b f0 f1 f2 f3 bo wa bu):w.frozen? ⟨b,0,none⟩=false/\w.frozen? ⟨b,1,none⟩=false/\w.frozen? ⟨b,2,none⟩=false/\w.frozen? ⟨b,3,none⟩=false/\w.frozen? ⟨b,4,none⟩=false/\w.frozen? ⟨b,5,none⟩=false/\w.frozen? ⟨b,6,none⟩=false:=by
 unfold BAt at h
 simp[World.frozen?,h]
theorem BAt.z9e(h:BAt w b f0 f1 f2 f3 bo wa bu)(v:Int):BAt (w.setCell ⟨b,0,none⟩ (J I v)) b v f1 f2 f3 bo wa bu:=by
 unfold BAt at *
 simp[World.setCell,Array.getElem?_modify,h]
theorem BAt.z8J(h:BAt w b f0 f1 f2 f3 bo wa bu)(v:Int):BAt (w.setCell ⟨b,1,none⟩ (J I v)) b f0 v f2 f3 bo wa bu:=by
 unfold BAt at *
 simp[World.setCell,Array.getElem?_modify,h]
theorem BAt.q5C(h:BAt w b f0 f1 f2 f3 bo wa bu)(v:Int):BAt (w.setCell ⟨b,2,none⟩ (J I v)) b f0 f1 v f3 bo wa bu:=by
 unfold BAt at *
 simp[World.setCell,Array.getElem?_modify,h]
theorem BAt.q5U(h:BAt w b f0 f1 f2 f3 bo wa bu)(v:Int):BAt (w.setCell ⟨b,3,none⟩ (J I v)) b f0 f1 f2 v bo wa bu:=by
 unfold BAt at *
 simp[World.setCell,Array.getElem?_modify,h]
theorem BAt.q9g(h:BAt w b f0 f1 f2 f3 bo wa bu)(v:Int):BAt (w.setCell ⟨b,4,none⟩ (J I v)) b f0 f1 f2 f3 v wa bu:=by
 unfold BAt at *
 simp[World.setCell,Array.getElem?_modify,h]
theorem BAt.q9A(h:BAt w b f0 f1 f2 f3 bo wa bu)(v:Int):BAt (w.setCell ⟨b,5,none⟩ (J I v)) b f0 f1 f2 f3 bo v bu:=by
 unfold BAt at *
 simp[World.setCell,Array.getElem?_modify,h]
theorem BAt.q9o(h:BAt w b f0 f1 f2 f3 bo wa bu)(v:Int):BAt (w.setCell ⟨b,6,none⟩ (J I v)) b f0 f1 f2 f3 bo wa v:=by
 unfold BAt at *
 simp[World.setCell,Array.getElem?_modify,h]
def z2C(w:World)(b:Nat)(v0 v1 v2 v3 a c d:Int):World:=((((((w.setCell ⟨b,0,none⟩ (J I v0)).setCell ⟨b,1,none⟩ (J I v1)).setCell ⟨b,2,none⟩ (J I v2)).setCell ⟨b,3,none⟩ (J I v3)).setCell ⟨b,4,none⟩ (J I a)).setCell ⟨b,5,none⟩ (J I c)).setCell ⟨b,6,none⟩ (J I d)
theorem BAt.z2C(h:BAt w b f0 f1 f2 f3 bo wa bu)(v0 v1 v2 v3 a c d:Int):BAt (z2C w b v0 v1 v2 v3 a c d) b v0 v1 v2 v3 a c d:=
 ((((((h.z9e v0).z8J v1).q5C v2).q5U v3).q9g a).q9A c).q9o d
theorem z0G(h:Below B w w')(a:B<=b)(v0 v1 v2 v3 c d e:Int):Below B w (Go.Proofs.YtjghbciepinofaaGreat.z2C w' b v0 v1 v2 v3 c d e):=
 ((((((h.setCell a _).setCell a _).setCell a _).setCell a _).setCell a _).setCell a _).setCell a _
theorem BAt.q6P{c:Nat}(h:BAt w b f0 f1 f2 f3 bo wa bu)(a:b≠c)(v0 v1 v2 v3 d e f:Int):BAt (Go.Proofs.YtjghbciepinofaaGreat.z2C w c v0 v1 v2 v3 d e f) b f0 f1 f2 f3 bo wa bu:=
 ((((((h.other a _).other a _).other a _).other a _).other a _).other a _).other a _
end
end
section
open Go.RowKit
def q8U(c:Nat):Value:=.func (.func 125) #[] #[J2 (some ⟨c,0,none⟩)]
def q1w(c:Nat->Nat)(k:Nat):List Value:=[.func (.func 122) #[] #[],.func (.func 123) #[] #[],.func (.func 124) #[] #[]] ++ (List.range k).map (fun j=>q8U (c j))
theorem q1Q(c:Nat->Nat)(k X:Nat):q1w (fun j=>if j=k then X else c j) (k+1)=q1w c k ++ [q8U X]:=by
 unfold q1w;rw[List.range_succ,List.map_append,<- List.append_assoc]
 congr 2
 ·apply List.map_congr_left;intro j a;have:j≠k:=by simp at a;omega
  simp[this]
 ·simp
def q9V(w:World)(B:Nat)(c:Nat->Nat)(k:Nat):Prop:=∀ j,j<k->B<=c j/\w.heap[c j]?=some (J5 #[J I j] 3 (0,0))
theorem q2f{w w':World}{B k:Nat}{c:Nat->Nat}{v:Value}{n:Nat}{m:List Value}(q:B<=w.heap.size)(h:q9V w B c k)
  (o:Obj) (r:o=J5 #[J I (k:Int)] 3 (0,0)) (p:Obj) (hown:w.ownsRow B 96 1 v n m) (s:((w.alloc o).alloc p).grownBy w' v.ownBlock) :
  q9V w' B (fun j=>if j=k then w.heap.size else c j) (k+1):=by
 have key:∀ b,b<((w.alloc o).alloc p).heap.size->(∀ g,v.ownBlock=some g->g<w.heap.size/\∃ a,w.heap[g]?=some (J5 a 96 (0,0)))->∀ x,((w.alloc o).alloc p).heap[b]?=some (J5 x 3 (0,0))->w'.heap[b]?=some (J5 x 3 (0,0)):=by
  intro b t i x l;rw[s.block b t ?_]
  ·exact l
  ·intro e;obtain⟨d,a,u⟩:=i b e.symm;rw[Below.heap_alloc _ _ _ (by simp;omega),Below.heap_alloc _ _ _ d,u]at l
   simp at l
 have i:∀ g,v.ownBlock=some g->g<w.heap.size/\∃ a,w.heap[g]?=some (J5 a 96 (0,0)):=by
  intro g f
  rcases hown.2 with⟨e,_⟩ | ⟨g',cap,a,e,_,hh,_⟩
  ·subst e;simp[Value.ownBlock]at f
  ·subst e
   simp[Value.ownBlock]at f
   subst f;exact⟨(Array.getElem?_eq_some_iff.1 hh).1,a,hh⟩
 intro j y
 by_cases e:j=k
 ·subst e;simp only[if_pos];refine⟨q,key _ (by simp;omega) i _ ?_⟩
  rw[Below.heap_alloc _ _ _ (by simp)]
  subst r;exact heap_alloc_new _ _
 ·simp only[if_neg e];obtain⟨h1,h2⟩:=h j (by omega)
  have d:=(Array.getElem?_eq_some_iff.1 h2).1;refine⟨h1,key _ (by simp;omega) i _ ?_⟩
  rw[Below.heap_alloc _ _ _ (by simp;omega),Below.heap_alloc _ _ _ d]
  exact h2
theorem cell_one_new(w:World)(v:Value)(e:TypeId):∀ (j:Nat) (u:Value),[v][j]?=some u->(w.alloc (J5 #[v] e)).cell? ((⟨w.heap.size,0,none⟩:Addr).add j)=some u:=by
 intro j u h
 match j,h with
 | 0,h=>simp at h;subst h;simp[Addr.add]
theorem cell_two_new(w:World)(o:Obj)(v:Value)(e:TypeId):∀ (j:Nat) (u:Value),[v][j]?=some u->((w.alloc o).alloc (J5 #[v] e)).cell? ((⟨w.heap.size+1,0,none⟩:Addr).add j)=some u:=by
 have:=cell_one_new (w.alloc o) v e
 simpa using this
theorem q1C(w:World):Calls prog 36 #[] w fun e w'=>∃ v c,e=.returned v/\w'.ownsRow w.heap.size 96 1 v 7 (q1w c 4)/\q9V w' w.heap.size c 4/\Bl w w':=by
 have a:(prog.info? 96).map (fun i=>(i.zero,i.size,i.bytes))=some (some .nilFunc,1,8):=by kernel_rfl
 obtain⟨r,s,m,n,o⟩:∃ i,prog.info? 96=some i/\i.zero=some .nilFunc/\i.size=1/\i.bytes=8:=by
  cases h:prog.info? 96 with
  | none=>rw[h]at a;cases a
  | some i=>rw[h]at a;simp at a;exact⟨i,rfl,a.1,a.2.1,a.2.2⟩
 clear a
 go_enter func36,ntmps36
 go_wp2_with (first
  | (go_at_call 82;refine (z4B _).mono ?_;rintro e w1⟨rfl,rfl⟩)
  | (go_at_call 83;refine (z3L _).mono ?_;rintro e w1⟨rfl,rfl⟩)
  | (go_at_call 84;refine (z5L _).mono ?_;rintro e w1⟨rfl,rfl⟩))
 go_loopw [1,7] (fun u i wl=>∃ (k:Nat) (c:Nat->Nat),k<=4/\i=J I (k:Int)/\wl.ownsRow w.heap.size 96 1 u (3+k) (q1w c k)/\Hid (q9V wl w.heap.size c k/\Bl w wl)) (fun _ i _=>(4 - intOf i).toNat)
 case atStart =>
  refine⟨0,fun _=>0,by omega,rfl,?_,fun j t=>absurd t (by omega),znw w _⟩
  exact⟨rfl,.inr ⟨_,3,_,rfl,Nat.le_refl _,heap_alloc_new _ _,by omega,by unfold maxLen;omega,rfl,rfl⟩⟩
 case round =>
  obtain⟨k,c,y,rfl,hown,l⟩:=hrel;have g:w.heap.size<=wr.heap.size:=l.out.2.size
  by_cases x:k<4
  ·go_wp2_with (first
    | (go_at_call 85;refine (z4F _ _).mono ?_;rintro e w1⟨rfl,rfl⟩)
     | (at_builtin;refine wpList_append_own _ rfl _ _ 93 rfl w.heap.size 96 r .nilFunc 1 8 underlying93 s m n o rfl (by decide) _ _ _ rfl (World.ownsRow.alloc (World.ownsRow.alloc hown _) _) ⟨wr.heap.size+1,0,none⟩ 1 1 [.func (.func 125) #[] #[J2 (some ⟨wr.heap.size,0,none⟩)]] rfl rfl (cell_two_new _ _ _ _) (by intro u hu;simp at hu;subst hu;rfl) (by unfold maxLen;omega) (by omega) (by simp;omega) ?_;intro z w1 d f _))
   go_roundw
   case rel =>
    have p:((wr.alloc (Obj.cells #[Value.int IntKind.i64 ↑k] 3)).alloc (Obj.cells #[Value.func (Fn.func 125) #[] #[Value.pointer (some ⟨wr.heap.size,0,none⟩)]] 96)).grownBy w1 u1.ownBlock:=f;refine⟨k+1,fun j=>if j=k then wr.heap.size else c j,by omega,by go_num,?_,q2f g l.out.1 _ rfl _ hown p,?_⟩
    ·rw[q1Q];exact d
    ·refine ((l.out.2.alloc g _).alloc (by simp;omega) _).grown p (by simp;omega) ?_
     intro b q
     rcases hown.2 with⟨e,_⟩ | ⟨g',cap,cur,e,hB,_⟩
     ·subst e;simp[Value.ownBlock]at q
     ·subst e
      simp[Value.ownBlock]at q
      omega
   case measure=>simp[intOf];omega
  ·obtain rfl:k=4:=by omega
   go_wp2;go_ret;exact⟨_,c,rfl,hown,l.out⟩
structure PL(w:World)(B g c0 c1 c2 c3:Nat):Prop where
 p0:w.cell? ⟨g,0,none⟩=some (.func (.func 122) #[] #[])
 p1:w.cell? ⟨g,1,none⟩=some (.func (.func 123) #[] #[])
 p2:w.cell? ⟨g,2,none⟩=some (.func (.func 124) #[] #[])
 p3:w.cell? ⟨g,3,none⟩=some (.func (.func 125) #[] #[J2 (some ⟨c0,0,none⟩)])
 p4:w.cell? ⟨g,4,none⟩=some (.func (.func 125) #[] #[J2 (some ⟨c1,0,none⟩)])
 p5:w.cell? ⟨g,5,none⟩=some (.func (.func 125) #[] #[J2 (some ⟨c2,0,none⟩)])
 p6:w.cell? ⟨g,6,none⟩=some (.func (.func 125) #[] #[J2 (some ⟨c3,0,none⟩)])
 q0:w.cell? ⟨c0,0,none⟩=some (J I 0)
 q1:w.cell? ⟨c1,0,none⟩=some (J I 1)
 q2:w.cell? ⟨c2,0,none⟩=some (J I 2)
 q3:w.cell? ⟨c3,0,none⟩=some (J I 3)
 bg:B<=g
 b0:B<=c0
 b1:B<=c1
 b2:B<=c2
 b3:B<=c3
theorem PL.later{w w':World}{B g c0 c1 c2 c3:Nat}(h:PL w B g c0 c1 c2 c3)(a:∀ k,B<=k->w'.heap[k]?=w.heap[k]?):PL w' B g c0 c1 c2 c3:=by
 have k:∀ (b o:Nat),B<=b->w'.cell? ⟨b,o,none⟩=w.cell? ⟨b,o,none⟩:=fun b o c=>World.cell?_of_block (w:=w) (a b c)
 exact⟨(k _ _ h.bg).trans h.p0,(k _ _ h.bg).trans h.p1,(k _ _ h.bg).trans h.p2,(k _ _ h.bg).trans h.p3,(k _ _ h.bg).trans h.p4,(k _ _ h.bg).trans h.p5,(k _ _ h.bg).trans h.p6,
  (k _ _ h.b0).trans h.q0,(k _ _ h.b1).trans h.q1,(k _ _ h.b2).trans h.q2,(k _ _ h.b3).trans h.q3,h.bg,h.b0,h.b1,h.b2,h.b3⟩
theorem z6N(w:World):Calls prog 36 #[] w fun e w'=>∃ g cap c0 c1 c2 c3,e=.returned (J1 (some ⟨g,0,none⟩) 7 cap)/\PL w' w.heap.size g c0 c1 c2 c3/\Bl w w':=by
 refine (q1C w).mono ?_;rintro e w'⟨v,c,rfl,hown,a,b⟩
 rcases hown.2 with⟨_,h⟩ | ⟨g,cap,cur,rfl,hB,hh,_,_,_,ht⟩
 ·exact absurd h (by decide)
 ·have hcell:∀ i u,(q1w c 4)[i]?=some u->w'.cell? ⟨g,i,none⟩=some u:=by
   intro i u hu;rw[<- ht,List.getElem?_take]at hu
   split at hu
   ·simp[World.cell?,hh]
    simpa using hu
   ·cases hu
  have hq:∀ j:Nat,j<4->w'.cell? ⟨c j,0,none⟩=some (J I j):=by
   intro j d
   simp[World.cell?,(a j d).2]
  exact⟨g,cap,c 0,c 1,c 2,c 3,rfl,⟨hcell 0 _ rfl,hcell 1 _ rfl,hcell 2 _ rfl,hcell 3 _ rfl,hcell 4 _ rfl,hcell 5 _ rfl,hcell 6 _ rfl,hq 0 (by decide),hq 1 (by decide),hq 2 (by decide),hq 3 (by decide),hB,(a 0 (by decide)).1,(a 1 (by decide)).1,(a 2 (by decide)).1,(a 3 (by decide)).1⟩,b⟩
theorem z1d(b c:Nat)(d:Int)(w:World)(a:w.cell? ⟨c,0,none⟩=some (J I d))(h0:0<=d)(h1:d<4) :
  Calls prog 125 #[J2 (some ⟨b,0,none⟩),J2 (some ⟨c,0,none⟩)] w fun e w'=>e=.returned (J2 (some ⟨b,d.toNat,none⟩))/\∃ nq,w'=w.drewN nq:=q3n b c d w h0 h1 a
theorem q5Q(f0 f1 f2 f3 bo wa bu d f h i j k l:Int)(w:World)(u:wrap64 bo=d)(v:wrap64 (d+wa)=f)(x:wrap64 (f+bu)=h)(y:wrap64 (h+f0)=i)(z:wrap64 (i+f1)=j)(A:wrap64 (j+f2)=k)(m:wrap64 (k+f3)=l) :
  Calls prog 11 #[J4 #[J I f0,J I f1,J I f2,J I f3,J I bo,J I wa,J I bu]] w
  fun e w'=>e=.returned (J I l)/\Bl w w':=by
 go_enter func11,ntmps11
 go_wp2_with fail
 refine (z6N _).mono ?_;rintro e w1⟨g,cap,c0,c1,c2,c3,rfl,P,b⟩;obtain⟨p0,p1,p2,p3,p4,p5,p6,q0,q1,q2,q3,n,p,q,r,s⟩:=P;clear n p q r s;have a:∀ o,w1.cell? ⟨w.heap.size,o,none⟩=(w.alloc (J5 #[J I f0,J I f1,J I f2,J I f3,J I bo,J I wa,J I bu] 24)).cell? ⟨w.heap.size,o,none⟩:=fun o=>b.cell (by simp)
 have B:w1.cell? ⟨w.heap.size,0,none⟩=some (J I f0):=by rw[a];simp
 have C:w1.cell? ⟨w.heap.size,1,none⟩=some (J I f1):=by rw[a];simp
 have D:w1.cell? ⟨w.heap.size,2,none⟩=some (J I f2):=by rw[a];simp
 have E:w1.cell? ⟨w.heap.size,3,none⟩=some (J I f3):=by rw[a];simp
 have F:w1.cell? ⟨w.heap.size,4,none⟩=some (J I bo):=by rw[a];simp
 have G:w1.cell? ⟨w.heap.size,5,none⟩=some (J I wa):=by rw[a];simp
 have H:w1.cell? ⟨w.heap.size,6,none⟩=some (J I bu):=by rw[a];simp
 have t:Hid (Bl w w1):=(znw w _).trans (b.mono (by simp))
 clear a b;go_wp2;refine wp_loop_rounds 8 ?_
 iterate 8 (try (rw[rounds_succ];go_wp2_with (first
  | (go_at_call 122;refine (z1o _ _).mono ?_;rintro e c⟨rfl,rfl⟩)
  | (go_at_call 123;refine (z1b _ _).mono ?_;rintro e c⟨rfl,rfl⟩)
  | (go_at_call 124;refine (z3x _ _).mono ?_;rintro e c⟨rfl,rfl⟩)
  | (go_at_call 125;refine (z1d _ _ _ _ (by first | exact q0 | exact q1 | exact q2 | exact q3) (by decide) (by decide)).mono ?_;rintro e c⟨rfl,nq,rfl⟩))))
 go_ret;subst m;exact⟨rfl,below_drewN t.out _⟩
theorem wrap_add(a b:Int):wrap64 (wrap64 a+b)=wrap64 (a+b):=by
 unfold wrap64;omega
theorem q6W(f0 f1 f2 f3 bo wa bu:Int)(w:World):Calls prog 11 #[J4 #[J I f0,J I f1,J I f2,J I f3,J I bo,J I wa,J I bu]] w
  fun e w'=>e=.returned (J I (wrap64 (f0+f1+f2+f3+bo+wa+bu)))/\Bl w w':=by
 refine (q5Q f0 f1 f2 f3 bo wa bu _ _ _ _ _ _ _ w rfl rfl rfl rfl rfl rfl rfl).mono ?_;rintro e w'⟨rfl,h⟩;refine⟨?_,h⟩;simp only[wrap_add];rw[show bo+wa+bu+f0+f1+f2+f3=f0+f1+f2+f3+bo+wa+bu by omega]
end
/-
 The arithmetic under MulDiv,no Go in sight: that a division of 128 bits by 64,two digits of 32 bits each (as the library's text goes),gives the quotient;and the reference's way,bit by bit.
-/
namespace Ra
theorem q0A(y1 y0 u u1 q r:Int)(a:0<y1 * 4294967296+y0)(hu:q * y1+r=u) :
  (4294967296 * r+u1<q * y0)↔(u * 4294967296+u1) / (y1 * 4294967296+y0)<q:=by
 rw[Int.ediv_lt_iff_lt_mul a,Int.mul_add,<- Int.mul_assoc];generalize q * y1=p1 at *;generalize q * y0=p0 at *;omega
theorem q4Z(y1 y0 u u1:Int)(a:0<y1 * 4294967296+y0)(hu:u<y1 * 4294967296+y0)(h1:u1<4294967296) :
  (u * 4294967296+u1) / (y1 * 4294967296+y0)<4294967296:=by
 rw[Int.ediv_lt_iff_lt_mul a];omega
theorem z9v(y1 y0 u u1:Int)(h0:0<=y0)(c:y0<4294967296)(h1:2147483648<=y1)(a:0<=u)(hu:u<y1 * 4294967296+y0)(d:0<=u1)(b:u1<4294967296) :
  (u * 4294967296+u1) / (y1 * 4294967296+y0)<=u / y1/\u / y1<=4294967297:=by
 constructor
 ·have e:=Int.mul_ediv_add_emod u y1;have m:=Int.emod_lt_of_pos u (show 0<y1 by omega)
  have:(u * 4294967296+u1) / (y1 * 4294967296+y0)<u / y1+1:=by
   rw[Int.ediv_lt_iff_lt_mul (by omega)]
   have q0:0<=u / y1:=Int.ediv_nonneg a (by omega)
   have:0<=(u / y1+1) * y0:=Int.mul_nonneg (by omega) h0
   rw[Int.mul_add,<- Int.mul_assoc,Int.add_mul (u / y1) 1 y1,Int.mul_comm (u / y1) y1];generalize (u / y1+1) * y0=p0 at *;generalize y1 * (u / y1)=p1 at *;omega
  omega
 ·have:u / y1<4294967298:=by
   rw[Int.ediv_lt_iff_lt_mul (by omega)]
   omega
  omega
theorem q1n(Y u a b:Int)(c:0<Y) :
  (u * 4294967296+a) / Y * 4294967296+(((u * 4294967296+a) % Y) * 4294967296+b) / Y=(u * 18446744073709551616+a * 4294967296+b) / Y:=by
 have e:=Int.mul_ediv_add_emod (u * 4294967296+a) Y;generalize (u * 4294967296+a) / Y=q at *;generalize (u * 4294967296+a) % Y=r at *
 have:u * 18446744073709551616+a * 4294967296+b=r * 4294967296+b+q * 4294967296 * Y:=by
  have:Y * q * 4294967296=q * 4294967296 * Y:=by rw[Int.mul_comm Y q,Int.mul_right_comm]
  omega
 rw[this,Int.add_mul_ediv_right _ _ (by omega)]
 omega
theorem q1H(U y p:Int)(a:0<p):U * p / (y * p)=U / y:=Int.mul_ediv_mul_of_pos_left U y a
/-! ### the reference: bit by bit -/
/-! ### a digit's loop -/
def Dig(y1 u Q q r:Int):Prop:=q * y1+r=u/\Q<=q/\0<=q/\q<=4294967297/\0<=r/\r<4294967296
theorem Dig.prod{y1 u Q q r:Int}(h:Dig y1 u Q q r){y0:Int}(h0:0<=y0)(a:y0<4294967296):0<=q * y0/\q * y0<18446744073709551616:=by
 obtain⟨_,_,h1,h2,_,_⟩:=h;refine⟨Int.mul_nonneg h1 h0,?_⟩;have:=Int.mul_le_mul h2 (show y0<=4294967295 by omega) h0 (by omega)
 omega
theorem Dig.gt{y1 u Q q r:Int}(h:Dig y1 u Q q r){y0 u1:Int}(a:0<y1 * 4294967296+y0)(b:Q=(u * 4294967296+u1) / (y1 * 4294967296+y0)):(4294967296 * r+u1<q * y0)↔Q<q:=by
 rw[b];exact q0A y1 y0 u u1 q r a h.1
theorem Dig.next{y1 u Q q r:Int}(h:Dig y1 u Q q r)(hq:Q<q)(b:0<=Q)(h1:0<=y1)(a:r+y1<4294967296):Dig y1 u Q (q - 1) (r+y1):=by
 obtain⟨e,h2,h3,c,d,f⟩:=h;refine⟨?_,by omega,by omega,by omega,by omega,a⟩
 rw[Int.sub_mul];generalize q * y1=p at *;omega
theorem Dig.last{y1 u Q q r:Int}(h:Dig y1 u Q q r)(hq:Q<q){y0 u1:Int}(h0:0<=y0)(a:y0<4294967296)(hu:0<=u1)(c:0<y1 * 4294967296+y0)(d:Q=(u * 4294967296+u1) / (y1 * 4294967296+y0))(i:4294967296<=r+y1):q - 1=Q:=by
 obtain⟨e,h2,h3,j,k,l⟩:=h
 have f:(q - 1) * y1+(r+y1)=u:=by
  rw[Int.sub_mul];generalize q * y1=p at *;omega
 have g:=q0A y1 y0 u u1 (q - 1) (r+y1) c f;rw[<- d]at g;have b:=Int.mul_le_mul (show q - 1<=4294967296 by omega) (show y0<=4294967295 by omega) h0 (by omega)
 generalize (q - 1) * y0=p at *;omega
theorem Dig.first(y1 y0 u u1 Q:Int)(h0:0<=y0)(c:y0<4294967296)(h1:2147483648<=y1)(g:y1<4294967296)(b:0<=u)(hu:u<y1 * 4294967296+y0)(d:0<=u1)(a:u1<4294967296)(h:Q=(u * 4294967296+u1) / (y1 * 4294967296+y0)) :
  Dig y1 u Q (u / y1) (u % y1)/\0<=Q/\Q<4294967296/\0<=u / y1 * y1/\u / y1 * y1<=u/\u - u / y1 * y1=u % y1:=by
 have f:=z9v y1 y0 u u1 h0 c h1 b hu d a;have l:=q4Z y1 y0 u u1 (by omega) hu a
 have n:0<=(u * 4294967296+u1) / (y1 * 4294967296+y0):=Int.ediv_nonneg (by omega) (by omega)
 rw[<- h]at f l n;have e:=Int.mul_ediv_add_emod u y1;rw[Int.mul_comm]at e;have m:=Int.emod_lt_of_pos u (show 0<y1 by omega)
 have i:=Int.emod_nonneg u (show y1≠0 by omega)
 have q0:0<=u / y1:=Int.ediv_nonneg b (by omega)
 have p0:0<=u / y1 * y1:=Int.mul_nonneg q0 (by omega)
 have D:Dig y1 u Q (u / y1) (u % y1):=⟨e,f.1,q0,f.2,i,by omega⟩
 exact⟨D,n,l,p0,by omega,by omega⟩
end Ra
namespace Ra
theorem q2m(y:Nat)(a:0<y)(c:y<9223372036854775808):∃ s:Nat,bitLen y+s=64/\1<=s/\s<=63/\9223372036854775808<=y * 2 ^ s/\y * 2 ^ s<18446744073709551616:=by
 obtain⟨h1,h2⟩:=bitLen_spec y;have h2:=h2 (by omega)
 have b:bitLen y≠0:=by intro h;rw[h]at h1;omega
 have d:bitLen y<=63:=by
  apply Decidable.byContradiction;intro h;have:2 ^ 63<=2 ^ (bitLen y - 1):=Nat.pow_le_pow_right (by decide) (by omega)
  omega
 refine⟨64 - bitLen y,by omega,by omega,by omega,?_,?_⟩
 ·have e:2 ^ (bitLen y - 1) * 2 ^ (64 - bitLen y)=2 ^ 63:=by rw[<- Nat.pow_add];congr 1;omega
  have:=Nat.mul_le_mul_right (2 ^ (64 - bitLen y)) h2;omega
 ·have e:2 ^ bitLen y * 2 ^ (64 - bitLen y)=2 ^ 64:=by rw[<- Nat.pow_add];congr 1;omega
  have:=Nat.mul_lt_mul_of_pos_right h1 (Nat.two_pow_pos (64 - bitLen y));omega
theorem q0Q(d c y s:Nat)(k:1<=s)(g:s<=63)(h:d<y)(hl:c<18446744073709551616)(l:y * 2 ^ s<18446744073709551616) :
  (d * 18446744073709551616+c) * 2 ^ s=(d * 2 ^ s+c / 2 ^ (64 - s)) * 18446744073709551616+c * 2 ^ s % 18446744073709551616/\d * 2 ^ s+c / 2 ^ (64 - s)<y * 2 ^ s /\
  d * 2 ^ s<18446744073709551616/\c / 2 ^ (64 - s)<2 ^ s:=by
 have f:2 ^ (64 - s) * 2 ^ s=18446744073709551616:=by rw[<- Nat.pow_add,show 64 - s+s=64 by omega]
 have i:c * 2 ^ s / 18446744073709551616=c / 2 ^ (64 - s):=by rw[<- f];exact Nat.mul_div_mul_right c (2 ^ (64 - s)) (Nat.two_pow_pos s)
 have j:=Nat.div_add_mod (c * 2 ^ s) 18446744073709551616;rw[i]at j
 have e:(d * 18446744073709551616+c) * 2 ^ s=(d * 2 ^ s+c / 2 ^ (64 - s)) * 18446744073709551616+c * 2 ^ s % 18446744073709551616:=by
  rw[Nat.add_mul,Nat.add_mul,Nat.mul_right_comm];generalize d * 2 ^ s=a;generalize c * 2 ^ s=b at *;omega
 have b1:d * 18446744073709551616+c<y * 18446744073709551616:=by omega
 have b2:=Nat.mul_lt_mul_of_pos_right b1 (Nat.two_pow_pos s);rw[e,Nat.mul_right_comm]at b2;have b3:c / 2 ^ (64 - s)<2 ^ s:=by rw[Nat.div_lt_iff_lt_mul (Nat.two_pow_pos _),Nat.mul_comm,f];exact hl
 refine⟨e,?_,?_,b3⟩
 ·generalize y * 2 ^ s=Y at *;generalize d * 2 ^ s+c / 2 ^ (64 - s)=u at *;omega
 ·have:=Nat.mul_le_mul_right (2 ^ s) (Nat.le_of_lt h);omega
theorem q7a(a b s:Nat)(d:a * 2 ^ s<18446744073709551616)(e:b<2 ^ s)(c:b<18446744073709551616):bits .or .u64 ((a * 2 ^ s:Nat):Int) (b:Int)=((a * 2 ^ s+b:Nat):Int):=by
 rw[bits_or_u64_nat _ _ d c,Nat.mul_comm a,Nat.two_pow_add_eq_or_of_lt e]
end Ra
namespace Ra
open Go.RowKit
theorem j0d(x y:Int)(a:0<=x)(c:x<18446744073709551616)(b:0<=y)(d:y<18446744073709551616)(w:World) :
  Calls prog 159 #[.int .u64 x,.int .u64 y] w fun e w'=>e=.returned (.tuple #[.int .u64 (x * y / 18446744073709551616),.int .u64 (x * y % 18446744073709551616)])/\w'=w:=by
 have A:=mul64_arith x y a c b d
 go_enter func159,ntmps159
 go_wp2;simp only[IntKind.wrap_u64,and_low32 x a c,and_low32 y b d,and_low32 (_ % 18446744073709551616) (Int.emod_nonneg _ (by decide)) (Int.emod_lt_of_pos _ (by decide)),A]
 go_ret2;exact⟨rfl,rfl⟩
theorem q3R(x b:Nat)(h:2 ^ b<=x):bitLen x=b+bitLen (x / 2 ^ b):=
 bitLen_shift x b (by have:=(Nat.le_div_iff_mul_le (Nat.two_pow_pos b)).2 (show 1 * 2 ^ b<=x by omega);omega)
theorem shifted(x b p:Nat)(a:2 ^ b=p)(h:p<=x):∃ z:Nat,(x:Int) / p=z/\bitLen x=b+bitLen z/\z=x / p:=by
 subst a;exact⟨x / 2 ^ b,by rw[Int.natCast_ediv],q3R x b h,rfl⟩
theorem wrap_small(a:Nat)(h:a<=8):wrap64 (a:Int)=(a:Int):=by unfold wrap64;omega
theorem z2Z(k a b:Nat)(c:k<=56)(h:a<=8)(e:b=k+a):wrap64 ((k:Int)+(a:Int))=(b:Int):=by unfold wrap64;omega
set_option maxRecDepth 1000000 in
theorem q6h(x:Nat)(b:x<18446744073709551616)(w:World) :
  Calls prog 135 #[.int .u64 x] w fun e w'=>e=.returned (J I (bitLen x))/\w'=w:=by
 by_cases h0:4294967296<=x
 ·have l:(4294967296:Int)<=(x:Int):=by omega
  obtain⟨z,q0,i,f0⟩:=shifted x 32 4294967296 (by decide) h0
  simp only[Int.cast_ofNat_Int]at q0
  by_cases h1:65536<=z
  ·have k:(65536:Int)<=(z:Int):=by omega
   obtain⟨y,q1,h,f1⟩:=shifted z 16 65536 (by decide) h1
   simp only[Int.cast_ofNat_Int]at q1
   by_cases h2:256<=y
   ·have f:(256:Int)<=(y:Int):=by omega
    obtain⟨v,q2,g,f2⟩:=shifted y 8 256 (by decide) h2
    simp only[Int.cast_ofNat_Int]at q2;have a:=bitLen_le8 v (by omega)
    have j:(v:Int)<256:=by omega
    have e:bitLen x=56+bitLen v:=by clear h0 h1 h2 b a j;omega
    have c:wrap64 ((bitLen v:Nat):Int)=(bitLen v:Nat):=wrap_small _ a;have d:wrap64 (56+((bitLen v:Nat):Int))=(bitLen x:Nat):=z2Z 56 _ _ (by decide) a e
    clear e;clear a h0 h1 h2 b i f0 h f1 g f2
    go_enter func135,ntmps135
    go_wp2;simp only[len8tab_get,c,d];go_ret;exact⟨rfl,rfl⟩
   ·have f:¬ (256:Int)<=(y:Int):=by omega
    have a:=bitLen_le8 y (by omega)
    have j:(y:Int)<256:=by omega
    have e:bitLen x=48+bitLen y:=by clear h0 h1 h2 b a j;omega
    have c:wrap64 ((bitLen y:Nat):Int)=(bitLen y:Nat):=wrap_small _ a;have d:wrap64 (48+((bitLen y:Nat):Int))=(bitLen x:Nat):=z2Z 48 _ _ (by decide) a e
    clear e;clear a h0 h1 h2 b i f0 h f1
    go_enter func135,ntmps135
    go_wp2;simp only[len8tab_get,c,d];go_ret;exact⟨rfl,rfl⟩
  ·have k:¬ (65536:Int)<=(z:Int):=by omega
   by_cases h2:256<=z
   ·have f:(256:Int)<=(z:Int):=by omega
    obtain⟨v,q2,g,f2⟩:=shifted z 8 256 (by decide) h2
    simp only[Int.cast_ofNat_Int]at q2;have a:=bitLen_le8 v (by omega)
    have j:(v:Int)<256:=by omega
    have e:bitLen x=40+bitLen v:=by clear h0 h1 h2 b a j;omega
    have c:wrap64 ((bitLen v:Nat):Int)=(bitLen v:Nat):=wrap_small _ a;have d:wrap64 (40+((bitLen v:Nat):Int))=(bitLen x:Nat):=z2Z 40 _ _ (by decide) a e
    clear e;clear a h0 h1 h2 b i f0 g f2
    go_enter func135,ntmps135
    go_wp2;simp only[len8tab_get,c,d];go_ret;exact⟨rfl,rfl⟩
   ·have f:¬ (256:Int)<=(z:Int):=by omega
    have a:=bitLen_le8 z (by omega)
    have j:(z:Int)<256:=by omega
    have e:bitLen x=32+bitLen z:=by clear h0 h1 h2 b a j;omega
    have c:wrap64 ((bitLen z:Nat):Int)=(bitLen z:Nat):=wrap_small _ a;have d:wrap64 (32+((bitLen z:Nat):Int))=(bitLen x:Nat):=z2Z 32 _ _ (by decide) a e
    clear e;clear a h0 h1 h2 b i f0
    go_enter func135,ntmps135
    go_wp2;simp only[len8tab_get,c,d];go_ret;exact⟨rfl,rfl⟩
 ·have l:¬ (4294967296:Int)<=(x:Int):=by omega
  by_cases h1:65536<=x
  ·have k:(65536:Int)<=(x:Int):=by omega
   obtain⟨y,q1,h,f1⟩:=shifted x 16 65536 (by decide) h1
   simp only[Int.cast_ofNat_Int]at q1
   by_cases h2:256<=y
   ·have f:(256:Int)<=(y:Int):=by omega
    obtain⟨v,q2,g,f2⟩:=shifted y 8 256 (by decide) h2
    simp only[Int.cast_ofNat_Int]at q2;have a:=bitLen_le8 v (by omega)
    have j:(v:Int)<256:=by omega
    have e:bitLen x=24+bitLen v:=by clear h0 h1 h2 b a j;omega
    have c:wrap64 ((bitLen v:Nat):Int)=(bitLen v:Nat):=wrap_small _ a;have d:wrap64 (24+((bitLen v:Nat):Int))=(bitLen x:Nat):=z2Z 24 _ _ (by decide) a e
    clear e;clear a h0 h1 h2 b h f1 g f2
    go_enter func135,ntmps135
    go_wp2;simp only[len8tab_get,c,d];go_ret;exact⟨rfl,rfl⟩
   ·have f:¬ (256:Int)<=(y:Int):=by omega
    have a:=bitLen_le8 y (by omega)
    have j:(y:Int)<256:=by omega
    have e:bitLen x=16+bitLen y:=by clear h0 h1 h2 b a j;omega
    have c:wrap64 ((bitLen y:Nat):Int)=(bitLen y:Nat):=wrap_small _ a;have d:wrap64 (16+((bitLen y:Nat):Int))=(bitLen x:Nat):=z2Z 16 _ _ (by decide) a e
    clear e;clear a h0 h1 h2 b h f1
    go_enter func135,ntmps135
    go_wp2;simp only[len8tab_get,c,d];go_ret;exact⟨rfl,rfl⟩
  ·have k:¬ (65536:Int)<=(x:Int):=by omega
   by_cases h2:256<=x
   ·have f:(256:Int)<=(x:Int):=by omega
    obtain⟨v,q2,g,f2⟩:=shifted x 8 256 (by decide) h2
    simp only[Int.cast_ofNat_Int]at q2;have a:=bitLen_le8 v (by omega)
    have j:(v:Int)<256:=by omega
    have e:bitLen x=8+bitLen v:=by clear h0 h1 h2 b a j;omega
    have c:wrap64 ((bitLen v:Nat):Int)=(bitLen v:Nat):=wrap_small _ a;have d:wrap64 (8+((bitLen v:Nat):Int))=(bitLen x:Nat):=z2Z 8 _ _ (by decide) a e
    clear e;clear a h0 h1 h2 b g f2
    go_enter func135,ntmps135
    go_wp2;simp only[len8tab_get,c,d];go_ret;exact⟨rfl,rfl⟩
   ·have f:¬ (256:Int)<=(x:Int):=by omega
    have a:=bitLen_le8 x (by omega)
    have j:(x:Int)<256:=by omega
    have c:wrap64 ((bitLen x:Nat):Int)=(bitLen x:Nat):=wrap_small _ a;clear a h0 h1 h2 b
    go_enter func135,ntmps135
    go_wp2;simp only[len8tab_get,c];go_ret;exact⟨rfl,rfl⟩
theorem q3D(x:Nat)(a:x<18446744073709551616)(hl:bitLen x<=64)(w:World) :
  Calls prog 168 #[.int .u64 x] w fun e w'=>e=.returned (J I (64 - bitLen x))/\w'=w:=by
 have c:=q6h x a w;generalize bitLen x=n at *
 go_enter func168,ntmps168
 go_wp2_with (go_at_call 135;refine c.mono ?_;rintro e w'⟨rfl,rfl⟩)
 go_ret;exact⟨rfl,rfl⟩
end Ra
namespace Df
abbrev Pw:=Int×Int
def z7v(P:Nat->Int)(x:Pw):Nat->Int:=if 0<=x.1/\x.1<6 then (fun i=>if i=x.1.toNat then x.2 else P i) else P
def z2e:Nat->Int:=fun _=>0
def z0i(l:List Pw):Nat->Int:=l.foldr (fun x P=>z7v P x) z2e
def z2v(P:Nat->Int)(l:List Pw):Nat->Int:=l.foldl z7v P
def those(c:Nat->Bool)(f:Nat->Int)(n:Nat):List Pw:=(List.range n).filterMap fun v=>if c v=true then some ((v:Int),f v) else none
theorem z1j(c:Nat->Bool)(f:Nat->Int)(n:Nat):those c f (n+1)=if c n=true then those c f n ++ [((n:Int),f n)] else those c f n:=by
 unfold those;rw[List.range_succ,List.filterMap_append];cases h:c n <;> simp[h]
theorem z1W(c:Nat->Bool)(f:Nat->Int):∀ n,(those c f n).length<=n
 | 0=>by simp[those]
 | n+1=>by
  have:=z1W c f n;rw[z1j]
  split
  ·rw[List.length_append];simp;omega
  ·omega
def z2x(a b:List Pw):List Pw:=those (fun v=>decide (z0i b v≠z0i a v)) (z0i b) 6
def z8b(a d:List Pw):List Pw:=those (fun v=>decide (0<z2v (z2v z2e a) d v)) (z2v (z2v z2e a) d) 6
def setOf(P:Nat->Int):List Pw:=those (fun v=>decide (0<P v)) P 6
theorem z2A{P:Nat->Int}{n:Nat}{x:Int}(a:n<6)(i:Nat):z7v P ((n:Int),x) i=if i=n then x else P i:=by
 unfold z7v;rw[if_pos (by simp;omega)]
 simp
theorem z4H(P:Nat->Int)(c:Nat->Bool)(f:Nat->Int):∀ n,n<=6->∀ i,z2v P (those c f n) i=if i<n/\c i=true then f i else P i
 | 0,_,i=>by simp[those,z2v]
 | n+1,hn,i=>by
  have b:=z4H P c f n (by omega)
  rw[z1j];cases d:c n
  ·rw[if_neg (by simp),b i]
   by_cases a:i=n
   ·subst a;simp[d]
   ·have:(i<n↔i<n+1):=by omega
    simp[this]
  ·rw[if_pos rfl];unfold z2v at b ⊢;rw[List.foldl_append]
   show z7v _ _ i=_
   rw[z2A (by omega),b i]
   by_cases a:i=n
   ·subst a;simp[d]
   ·have:(i<n↔i<n+1):=by omega
    simp[a,this]
theorem z4U(c:Nat->Bool)(f:Nat->Int):∀ n,n<=6->∀ (P:Nat->Int) i,(those c f n).foldr (fun x P=>z7v P x) P i=if i<n/\c i=true then f i else P i
 | 0,_,P,i=>by simp[those]
 | n+1,hn,P,i=>by
  have b:=z4U c f n (by omega)
  rw[z1j];cases d:c n
  ·rw[if_neg (by simp),b P i]
   by_cases a:i=n
   ·subst a;simp[d]
   ·have:(i<n↔i<n+1):=by omega
    simp[this]
  ·rw[if_pos rfl,List.foldr_append,b];simp only[List.foldr_cons,List.foldr_nil];rw[z2A (by omega)]
   by_cases a:i=n
   ·subst a;simp[d]
   ·have:(i<n↔i<n+1):=by omega
    simp[a,this]
theorem z7L{P:Nat->Int}(h0:∀ i,0<=P i){i:Nat}(a:i<6):z0i (setOf P) i=P i:=by
 unfold z0i setOf;rw[z4U _ _ 6 (by omega)]
 by_cases h:0<P i
 ·simp[a,h]
 ·have:=h0 i
  simp[h,z2e]
  omega
theorem q0i{P:Nat->Int}(h0:∀ i,0<=P i){i:Nat}(a:i<6):z2v z2e (setOf P) i=P i:=by
 unfold setOf;rw[z4H _ _ _ 6 (by omega)]
 by_cases h:0<P i
 ·simp[a,h]
 ·have:=h0 i
  simp[h,z2e]
  omega
theorem z3K{c a:Nat->Bool}{f b:Nat->Int}:∀ n,(∀ i,i<n->c i=a i/\(c i=true->f i=b i))->those c f n=those a b n
 | 0,_=>rfl
 | n+1,h=>by
  rw[z1j,z1j,z3K n (fun i d=>h i (by omega))]
  obtain⟨h1,h2⟩:=h n (by omega)
  rw[<- h1]
  split
  ·rename_i hc;rw[h2 hc]
  ·rfl
theorem q1O{P R:Nat->Int}(b:∀ i,0<=P i)(c:∀ i,0<=R i):z8b (setOf P) (z2x (setOf P) (setOf R))=setOf R:=by
 have key:∀ i,i<6->z2v (z2v z2e (setOf P)) (z2x (setOf P) (setOf R)) i=R i:=by
  intro i a;unfold z2x;rw[z4H _ _ _ 6 (by omega)]
  simp only[z7L b a,z7L c a,q0i b a]
  by_cases h:R i=P i
  ·simp[h]
  ·simp[h,a]
 unfold z8b;exact z3K 6 fun i a=>⟨by rw[key i a],fun _=>key i a⟩
theorem q2U{P:Nat->Int}(b:∀ i,0<=P i):z8b (setOf P) []=setOf P:=by
 have key:∀ i,i<6->z2v (z2v z2e (setOf P)) [] i=P i:=fun i a=>q0i b a;unfold z8b;exact z3K 6 fun i a=>⟨by rw[key i a],fun _=>key i a⟩
theorem z5r{c:Nat->Bool}{f:Nat->Int}:∀ n,(∀ i,i<n->c i=false)->those c f n=[]
 | 0,_=>rfl
 | n+1,h=>by rw[z1j,if_neg (by simp[h n (by omega)]),z5r n (fun i a=>h i (by omega))]
theorem q3v(a:List Pw):z2x a a=[]:=z5r 6 fun i _=>by simp
def z6c(l:List Pw):Int:=l.foldl (fun s x=>(s+x.2+9223372036854775808) % 18446744073709551616 - 9223372036854775808) 0
theorem z6z(l:List Pw)(k:Nat)(a:k<l.length):z0i (l.drop k)=z7v (z0i (l.drop (k+1))) (l.getD k (0,0)):=by
 unfold z0i;rw[List.drop_eq_getElem_cons a,List.foldr_cons,show l.getD k (0,0)=l[k] by simp[List.getD,a]]
theorem z9z(l:List Pw)(k:Nat)(a:k<l.length):z6c (l.take (k+1))=(z6c (l.take k)+(l.getD k (0,0)).2+9223372036854775808) % 18446744073709551616 - 9223372036854775808:=by
 unfold z6c;rw[List.take_succ_eq_append_getElem a,List.foldl_append]
 simp[List.getD,a]
end Df
end Go.Proofs.YtjghbciepinofaaGreat
