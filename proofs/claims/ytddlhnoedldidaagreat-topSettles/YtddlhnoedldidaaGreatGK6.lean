/- Parts of the proof. -/
import Derived.Test.YtddlhnoedldidaaGreatGL
import Derived.WalkKit
import Derived.Below
import Derived.BigQuiet
import Derived.Deep.QuietTactic
import Derived.WalkSmall
import Derived.Maps.AppendAt
import Derived.LoopN
import Derived.ProofKit
import Derived.Laws.MathBits
import Derived.WalkSpells
import Derived.WalkLawsBesides
import Derived.Deep.DeepCutAuto
set_option maxRecDepth 100000
set_option maxHeartbeats 16000000
namespace Go.Proofs.YtddlhnoedldidaaGreat
open Go.Proofs.Tryz
open Value renaming int->J,slice->J1,pointer->J2,bool->J3,agg->J4
open IntKind renaming i64->I
open Obj renaming cells->J5
section
open Go.RowKit
theorem z1G(b:Nat)(w:World):Calls prog 169 #[J2 (some ⟨b,0,none⟩)] w fun e w'=>e=.returned (J2 (some ⟨b,4,none⟩))/\w=w':=by
 go_enter func169,ntmps169
 go_wp2;go_ret;exact⟨rfl,rfl⟩
theorem z1o(b:Nat)(w:World):Calls prog 170 #[J2 (some ⟨b,0,none⟩)] w fun e w'=>e=.returned (J2 (some ⟨b,5,none⟩))/\w=w':=by
 go_enter func170,ntmps170
 go_wp2;go_ret;exact⟨rfl,rfl⟩
theorem z5a(b:Nat)(w:World):Calls prog 192 #[J2 (some ⟨b,0,none⟩)] w fun e w'=>e=.returned (J2 (some ⟨b,6,none⟩))/\w=w':=by
 go_enter func192,ntmps192
 go_wp2;go_ret;exact⟨rfl,rfl⟩
theorem q7Z(b c:Nat)(d:Int)(w:World)(h0:0<=d)(h1:d<4)(hc:w.cell? ⟨c,0,none⟩=some (J I d)) :
  Calls prog 168 #[J2 (some ⟨b,0,none⟩),J2 (some ⟨c,0,none⟩)] w fun e w'=>e=.returned (J2 (some ⟨b,d.toNat,none⟩))/\∃ nq,w'=w.drewN nq:=by
 go_enter func168,ntmps168
 go_wp2_with fail
 go_quiet (fail);go_wp2;go_ret;exact⟨rfl,_,rfl⟩
theorem z5j(w:World):Calls prog 147 #[] w fun e w'=>e=.returned (.func (.func 169) #[] #[])/\w=w':=by
 go_enter func147,ntmps147
 go_wp2;go_ret;exact⟨rfl,rfl⟩
theorem z4t(w:World):Calls prog 148 #[] w fun e w'=>e=.returned (.func (.func 170) #[] #[])/\w=w':=by
 go_enter func148,ntmps148
 go_wp2;go_ret;exact⟨rfl,rfl⟩
theorem z8t(w:World):Calls prog 171 #[] w fun e w'=>e=.returned (.func (.func 192) #[] #[])/\w=w':=by
 go_enter func171,ntmps171
 go_wp2;go_ret;exact⟨rfl,rfl⟩
theorem z6K(d:Int)(w:World):Calls prog 146 #[J I d] w fun e w'=>e=.returned (.func (.func 168) #[] #[J2 (some ⟨w.heap.size,0,none⟩)])/\w'=w.alloc (J5 #[J I d] 3):=by
 have b:∀ (a:Fn) (first cap:Array Value) (w:World),(Instr.makeFunc a first cap).run prog w=.ok (.func a first cap) w:=fun _ _ _ _=>rfl
 go_enter func146,ntmps146
 go_wp2;go_ret;exact⟨rfl,rfl⟩
theorem z6g(d:Int)(w:World):Calls prog 144 #[J I d] w fun e w'=>e=.returned (J3 (decide (0<=d/\d<4)))/\w=w':=by
 by_cases h0:0<=d
 ·by_cases h1:d<4
  ·rw[decide_eq_true ⟨h0,h1⟩]
   go_enter func144,ntmps144
   go_wp2;go_ret;exact⟨rfl,rfl⟩
  ·rw[decide_eq_false (fun h=>h1 h.2)];have h2:4<=d:=by omega
   go_enter func144,ntmps144
   go_wp2;go_ret;exact⟨rfl,rfl⟩
 ·rw[decide_eq_false (fun h=>h0 h.1)];have h2:d<0:=by omega
  go_enter func144,ntmps144
  go_wp2;go_ret;exact⟨rfl,rfl⟩
theorem z1E(d:Int)(w:World):Calls prog 142 #[J I d] w fun e w'=>e=.returned (J3 (decide (0<=d/\d<=1125899906842624)))/\w=w':=by
 by_cases h0:0<=d
 ·by_cases h1:d<=1125899906842624
  ·rw[decide_eq_true ⟨h0,h1⟩]
   go_enter func142,ntmps142
   go_wp2;go_ret;exact⟨rfl,rfl⟩
  ·rw[decide_eq_false (fun h=>h1 h.2)];have h2:1125899906842624<d:=by omega
   go_enter func142,ntmps142
   go_wp2;go_ret;exact⟨rfl,rfl⟩
 ·rw[decide_eq_false (fun h=>h0 h.1)];have h2:d<0:=by omega
  go_enter func142,ntmps142
  go_wp2;go_ret;exact⟨rfl,rfl⟩
end
section
open Go.RowKit
def BAt(w:World)(b:Nat)(f0 f1 f2 f3 bo wa bu:Int):Prop:=w.heap[b]?=some (J5 #[J I f0,J I f1,J I f2,J I f3,J I bo,J I wa,J I bu] 35)
section
variable {w w':World} {b B:Nat} {f0 f1 f2 f3 bo wa bu:Int}
theorem BAt.later(h:BAt w b f0 f1 f2 f3 bo wa bu)(hb:Below B w w')(a:b<B):BAt w' b f0 f1 f2 f3 bo wa bu:=(hb.block b a).trans h
theorem BAt.new(w:World)(f0 f1 f2 f3 bo wa bu:Int):BAt (w.alloc (J5 #[J I f0,J I f1,J I f2,J I f3,J I bo,J I wa,J I bu] 35)) w.heap.size f0 f1 f2 f3 bo wa bu:=heap_alloc_new _ _
theorem BAt.other{c o:Nat}(h:BAt w b f0 f1 f2 f3 bo wa bu)(hb:b≠c)(v:Value):BAt (w.setCell ⟨c,o,none⟩ v) b f0 f1 f2 f3 bo wa bu:=(Below.heap_setCell _ _ _ _ hb).trans h
theorem BAt.alloc(h:BAt w b f0 f1 f2 f3 bo wa bu)(o:Obj):BAt (w.alloc o) b f0 f1 f2 f3 bo wa bu:=(Below.heap_alloc _ _ _ (Array.getElem?_eq_some_iff.1 h).1).trans h
theorem BAt.lt(h:BAt w b f0 f1 f2 f3 bo wa bu):b<w.heap.size:=(Array.getElem?_eq_some_iff.1 h).1
theorem BAt.cells(h:BAt w b f0 f1 f2 f3 bo wa bu):w.cell? ⟨b,0,none⟩=some (J I f0)/\w.cell? ⟨b,1,none⟩=some (J I f1)/\w.cell? ⟨b,2,none⟩=some (J I f2)/\w.cell? ⟨b,3,none⟩=some (J I f3)/\w.cell? ⟨b,4,none⟩=some (J I bo)/\w.cell? ⟨b,5,none⟩=some (J I wa)/\w.cell? ⟨b,6,none⟩=some (J I bu):=by
 unfold BAt at h
 simp[World.cell?,h]
theorem BAt.frees(h:BAt w b f0 f1 f2 f3 bo wa bu):w.frozen? ⟨b,0,none⟩=false/\w.frozen? ⟨b,1,none⟩=false/\w.frozen? ⟨b,2,none⟩=false/\w.frozen? ⟨b,3,none⟩=false/\w.frozen? ⟨b,4,none⟩=false/\w.frozen? ⟨b,5,none⟩=false/\w.frozen? ⟨b,6,none⟩=false:=by
 unfold BAt at h
 simp[World.frozen?,h]
theorem BAt.j1e(h:BAt w b f0 f1 f2 f3 bo wa bu)(v:Int):BAt (w.setCell ⟨b,0,none⟩ (J I v)) b v f1 f2 f3 bo wa bu:=by
 unfold BAt at *
 simp[World.setCell,Array.getElem?_modify,h]
theorem BAt.q9q(h:BAt w b f0 f1 f2 f3 bo wa bu)(v:Int):BAt (w.setCell ⟨b,1,none⟩ (J I v)) b f0 v f2 f3 bo wa bu:=by
 unfold BAt at *
 simp[World.setCell,Array.getElem?_modify,h]
theorem BAt.j0x(h:BAt w b f0 f1 f2 f3 bo wa bu)(v:Int):BAt (w.setCell ⟨b,2,none⟩ (J I v)) b f0 f1 v f3 bo wa bu:=by
 unfold BAt at *
 simp[World.setCell,Array.getElem?_modify,h]
theorem BAt.q9j(h:BAt w b f0 f1 f2 f3 bo wa bu)(v:Int):BAt (w.setCell ⟨b,3,none⟩ (J I v)) b f0 f1 f2 v bo wa bu:=by
 unfold BAt at *
 simp[World.setCell,Array.getElem?_modify,h]
theorem BAt.y0w(h:BAt w b f0 f1 f2 f3 bo wa bu)(v:Int):BAt (w.setCell ⟨b,4,none⟩ (J I v)) b f0 f1 f2 f3 v wa bu:=by
 unfold BAt at *
 simp[World.setCell,Array.getElem?_modify,h]
theorem BAt.y0U(h:BAt w b f0 f1 f2 f3 bo wa bu)(v:Int):BAt (w.setCell ⟨b,5,none⟩ (J I v)) b f0 f1 f2 f3 bo v bu:=by
 unfold BAt at *
 simp[World.setCell,Array.getElem?_modify,h]
theorem BAt.j9o(h:BAt w b f0 f1 f2 f3 bo wa bu)(v:Int):BAt (w.setCell ⟨b,6,none⟩ (J I v)) b f0 f1 f2 f3 bo wa v:=by
 unfold BAt at *
 simp[World.setCell,Array.getElem?_modify,h]
def z7i(w:World)(b:Nat)(v0 v1 v2 v3 a c d:Int):World:=((((((w.setCell ⟨b,0,none⟩ (J I v0)).setCell ⟨b,1,none⟩ (J I v1)).setCell ⟨b,2,none⟩ (J I v2)).setCell ⟨b,3,none⟩ (J I v3)).setCell ⟨b,4,none⟩ (J I a)).setCell ⟨b,5,none⟩ (J I c)).setCell ⟨b,6,none⟩ (J I d)
theorem BAt.z7i(h:BAt w b f0 f1 f2 f3 bo wa bu)(v0 v1 v2 v3 a c d:Int):BAt (z7i w b v0 v1 v2 v3 a c d) b v0 v1 v2 v3 a c d:=
 ((((((h.j1e v0).q9q v1).j0x v2).q9j v3).y0w a).y0U c).j9o d
theorem z3t(h:Below B w w')(a:B<=b)(v0 v1 v2 v3 c d e:Int):Below B w (Go.Proofs.YtddlhnoedldidaaGreat.z7i w' b v0 v1 v2 v3 c d e):=
 ((((((h.setCell a _).setCell a _).setCell a _).setCell a _).setCell a _).setCell a _).setCell a _
end
end
section
open Go.RowKit
def j9r(c:Nat):Value:=.func (.func 168) #[] #[J2 (some ⟨c,0,none⟩)]
def q6T(c:Nat->Nat)(k:Nat):List Value:=[.func (.func 169) #[] #[],.func (.func 170) #[] #[],.func (.func 192) #[] #[]] ++ (List.range k).map (fun j=>j9r (c j))
theorem q5Y(c:Nat->Nat)(k X:Nat):q6T (fun j=>if j=k then X else c j) (k+1)=q6T c k ++ [j9r X]:=by
 unfold q6T;rw[List.range_succ,List.map_append,<- List.append_assoc]
 congr 2
 ·apply List.map_congr_left;intro j a;have:j≠k:=by simp at a;omega
  simp[this]
 ·simp
def y1p(w:World)(B:Nat)(c:Nat->Nat)(k:Nat):Prop:=∀ j,j<k->B<=c j/\w.heap[c j]?=some (J5 #[J I j] 3 (0,0))
theorem q8M{w w':World}{B k:Nat}{c:Nat->Nat}{v:Value}{n:Nat}{m:List Value}(q:B<=w.heap.size)(h:y1p w B c k)
  (o:Obj) (r:o=J5 #[J I (k:Int)] 3 (0,0)) (p:Obj) (hown:w.ownsRow B 221 1 v n m) (s:((w.alloc o).alloc p).grownBy w' v.ownBlock) :
  y1p w' B (fun j=>if j=k then w.heap.size else c j) (k+1):=by
 have key:∀ b,b<((w.alloc o).alloc p).heap.size->(∀ g,v.ownBlock=some g->g<w.heap.size/\∃ a,w.heap[g]?=some (J5 a 221 (0,0)))->∀ x,((w.alloc o).alloc p).heap[b]?=some (J5 x 3 (0,0))->w'.heap[b]?=some (J5 x 3 (0,0)):=by
  intro b hb i x l;rw[s.block b hb ?_]
  ·exact l
  ·intro e;obtain⟨d,a,hc⟩:=i b e.symm;rw[Below.heap_alloc _ _ _ (by simp;omega),Below.heap_alloc _ _ _ d,hc]at l
   simp at l
 have i:∀ g,v.ownBlock=some g->g<w.heap.size/\∃ a,w.heap[g]?=some (J5 a 221 (0,0)):=by
  intro g f
  rcases hown.2 with⟨e,_⟩ | ⟨g',cap,a,e,_,hh,_⟩
  ·subst e;simp[Value.ownBlock]at f
  ·subst e
   simp[Value.ownBlock]at f
   subst f;exact⟨(Array.getElem?_eq_some_iff.1 hh).1,a,hh⟩
 intro j t
 by_cases e:j=k
 ·subst e;simp only[if_pos];refine⟨q,key _ (by simp;omega) i _ ?_⟩
  rw[Below.heap_alloc _ _ _ (by simp)]
  subst r;exact heap_alloc_new _ _
 ·simp only[if_neg e];obtain⟨h1,h2⟩:=h j (by omega)
  have d:=(Array.getElem?_eq_some_iff.1 h2).1;refine⟨h1,key _ (by simp;omega) i _ ?_⟩
  rw[Below.heap_alloc _ _ _ (by simp;omega),Below.heap_alloc _ _ _ d]
  exact h2
theorem cell_one_new(w:World)(v:Value)(e:TypeId):∀ (j:Nat) (u:Value),[v][j]?=some u->(w.alloc (J5 #[v] e)).cell? ((⟨w.heap.size,0,none⟩:Addr).add j)=some u:=by
 intro j u h
 match j,h with
 | 0,h=>simp at h;subst h;simp[Addr.add]
theorem cell_two_new(w:World)(o:Obj)(v:Value)(e:TypeId):∀ (j:Nat) (u:Value),[v][j]?=some u->((w.alloc o).alloc (J5 #[v] e)).cell? ((⟨w.heap.size+1,0,none⟩:Addr).add j)=some u:=by
 have:=cell_one_new (w.alloc o) v e
 simpa using this
theorem q5P(w:World):Calls prog 190 #[] w fun e w'=>∃ v c,e=.returned v/\w'.ownsRow w.heap.size 221 1 v 7 (q6T c 4)/\y1p w' w.heap.size c 4/\Bl w w':=by
 have a:(prog.info? 221).map (fun i=>(i.zero,i.size,i.bytes))=some (some .nilFunc,1,8):=by kernel_rfl
 obtain⟨i0,q,m,n,o⟩:∃ i,prog.info? 221=some i/\i.zero=some .nilFunc/\i.size=1/\i.bytes=8:=by
  cases h:prog.info? 221 with
  | none=>rw[h]at a;cases a
  | some i=>rw[h]at a;simp at a;exact⟨i,rfl,a.1,a.2.1,a.2.2⟩
 clear a
 go_enter func190,ntmps190
 go_wp2_with (first
  | (go_at_call 147;refine (z5j _).mono ?_;rintro e w1⟨rfl,rfl⟩)
  | (go_at_call 148;refine (z4t _).mono ?_;rintro e w1⟨rfl,rfl⟩)
  | (go_at_call 171;refine (z8t _).mono ?_;rintro e w1⟨rfl,rfl⟩))
 go_loopw [1,7] (fun u i wl=>∃ (k:Nat) (c:Nat->Nat),k<=4/\i=J I (k:Int)/\wl.ownsRow w.heap.size 221 1 u (3+k) (q6T c k)/\Hid (y1p wl w.heap.size c k/\Bl w wl)) (fun _ i _=>(4 - intOf i).toNat)
 case atStart =>
  refine⟨0,fun _=>0,by omega,rfl,?_,fun j r=>absurd r (by omega),znw w _⟩
  exact⟨rfl,.inr ⟨_,3,_,rfl,Nat.le_refl _,heap_alloc_new _ _,by omega,by unfold maxLen;omega,rfl,rfl⟩⟩
 case round =>
  obtain⟨k,c,t,rfl,hown,l⟩:=hrel;have g:w.heap.size<=wr.heap.size:=l.out.2.size
  by_cases s:k<4
  ·go_wp2_with (first
    | (go_at_call 146;refine (z6K _ _).mono ?_;rintro e w1⟨rfl,rfl⟩)
     | (at_builtin;refine wpList_append_own _ rfl _ _ 262 rfl w.heap.size 221 i0 .nilFunc 1 8 underlying262 q m n o rfl (by decide) _ _ _ rfl (World.ownsRow.alloc (World.ownsRow.alloc hown _) _) ⟨wr.heap.size+1,0,none⟩ 1 1 [.func (.func 168) #[] #[J2 (some ⟨wr.heap.size,0,none⟩)]] rfl rfl (cell_two_new _ _ _ _) (by intro u hu;simp at hu;subst hu;rfl) (by unfold maxLen;omega) (by omega) (by simp;omega) ?_;intro v' w1 d f _))
   go_roundw
   case rel =>
    have p:((wr.alloc (Obj.cells #[Value.int IntKind.i64 ↑k] 3)).alloc (Obj.cells #[Value.func (Fn.func 168) #[] #[Value.pointer (some ⟨wr.heap.size,0,none⟩)]] 221)).grownBy w1 u1.ownBlock:=f;refine⟨k+1,fun j=>if j=k then wr.heap.size else c j,by omega,by go_num,?_,q8M g l.out.1 _ rfl _ hown p,?_⟩
    ·rw[q5Y];exact d
    ·refine ((l.out.2.alloc g _).alloc (by simp;omega) _).grown p (by simp;omega) ?_
     intro b hb
     rcases hown.2 with⟨e,_⟩ | ⟨g',cap,cur,e,hB,_⟩
     ·subst e;simp[Value.ownBlock]at hb
     ·subst e
      simp[Value.ownBlock]at hb
      omega
   case measure=>simp[intOf];omega
  ·obtain rfl:k=4:=by omega
   go_wp2;go_ret;exact⟨_,c,rfl,hown,l.out⟩
structure PL(w:World)(B g c0 c1 c2 c3:Nat):Prop where
 p0:w.cell? ⟨g,0,none⟩=some (.func (.func 169) #[] #[])
 p1:w.cell? ⟨g,1,none⟩=some (.func (.func 170) #[] #[])
 p2:w.cell? ⟨g,2,none⟩=some (.func (.func 192) #[] #[])
 p3:w.cell? ⟨g,3,none⟩=some (.func (.func 168) #[] #[J2 (some ⟨c0,0,none⟩)])
 p4:w.cell? ⟨g,4,none⟩=some (.func (.func 168) #[] #[J2 (some ⟨c1,0,none⟩)])
 p5:w.cell? ⟨g,5,none⟩=some (.func (.func 168) #[] #[J2 (some ⟨c2,0,none⟩)])
 p6:w.cell? ⟨g,6,none⟩=some (.func (.func 168) #[] #[J2 (some ⟨c3,0,none⟩)])
 q0:w.cell? ⟨c0,0,none⟩=some (J I 0)
 q1:w.cell? ⟨c1,0,none⟩=some (J I 1)
 q2:w.cell? ⟨c2,0,none⟩=some (J I 2)
 q3:w.cell? ⟨c3,0,none⟩=some (J I 3)
 bg:B<=g
 b0:B<=c0
 b1:B<=c1
 b2:B<=c2
 b3:B<=c3
theorem PL.later{w w':World}{B g c0 c1 c2 c3:Nat}(h:PL w B g c0 c1 c2 c3)(hb:∀ k,B<=k->w'.heap[k]?=w.heap[k]?):PL w' B g c0 c1 c2 c3:=by
 have k:∀ (b o:Nat),B<=b->w'.cell? ⟨b,o,none⟩=w.cell? ⟨b,o,none⟩:=fun b o a=>World.cell?_of_block (w:=w) (hb b a)
 exact⟨(k _ _ h.bg).trans h.p0,(k _ _ h.bg).trans h.p1,(k _ _ h.bg).trans h.p2,(k _ _ h.bg).trans h.p3,(k _ _ h.bg).trans h.p4,(k _ _ h.bg).trans h.p5,(k _ _ h.bg).trans h.p6,
  (k _ _ h.b0).trans h.q0,(k _ _ h.b1).trans h.q1,(k _ _ h.b2).trans h.q2,(k _ _ h.b3).trans h.q3,h.bg,h.b0,h.b1,h.b2,h.b3⟩
theorem z9O(w:World):Calls prog 190 #[] w fun e w'=>∃ g cap c0 c1 c2 c3,e=.returned (J1 (some ⟨g,0,none⟩) 7 cap)/\PL w' w.heap.size g c0 c1 c2 c3/\Bl w w':=by
 refine (q5P w).mono ?_;rintro e w'⟨v,c,rfl,hown,hc,hb⟩
 rcases hown.2 with⟨_,h⟩ | ⟨g,cap,cur,rfl,hB,hh,_,_,_,ht⟩
 ·exact absurd h (by decide)
 ·have hcell:∀ i u,(q6T c 4)[i]?=some u->w'.cell? ⟨g,i,none⟩=some u:=by
   intro i u hu;rw[<- ht,List.getElem?_take]at hu
   split at hu
   ·simp[World.cell?,hh]
    simpa using hu
   ·cases hu
  have a:∀ j:Nat,j<4->w'.cell? ⟨c j,0,none⟩=some (J I j):=by
   intro j b
   simp[World.cell?,(hc j b).2]
  exact⟨g,cap,c 0,c 1,c 2,c 3,rfl,⟨hcell 0 _ rfl,hcell 1 _ rfl,hcell 2 _ rfl,hcell 3 _ rfl,hcell 4 _ rfl,hcell 5 _ rfl,hcell 6 _ rfl,a 0 (by decide),a 1 (by decide),a 2 (by decide),a 3 (by decide),hB,(hc 0 (by decide)).1,(hc 1 (by decide)).1,(hc 2 (by decide)).1,(hc 3 (by decide)).1⟩,hb⟩
theorem z1p(b c:Nat)(d:Int)(w:World)(hc:w.cell? ⟨c,0,none⟩=some (J I d))(h0:0<=d)(h1:d<4) :
  Calls prog 168 #[J2 (some ⟨b,0,none⟩),J2 (some ⟨c,0,none⟩)] w fun e w'=>e=.returned (J2 (some ⟨b,d.toNat,none⟩))/\∃ nq,w'=w.drewN nq:=q7Z b c d w h0 h1 hc
theorem j3g(f0 f1 f2 f3 bo wa bu c d f h i j k:Int)(w:World)(r:wrap64 bo=c)(s:wrap64 (c+wa)=d)(t:wrap64 (d+bu)=f)(u:wrap64 (f+f0)=h)(v:wrap64 (h+f1)=i)(x:wrap64 (i+f2)=j)(l:wrap64 (j+f3)=k) :
  Calls prog 165 #[J4 #[J I f0,J I f1,J I f2,J I f3,J I bo,J I wa,J I bu]] w
  fun e w'=>e=.returned (J I k)/\Bl w w':=by
 go_enter func165,ntmps165
 go_wp2_with fail
 refine (z9O _).mono ?_;rintro e w1⟨g,cap,c0,c1,c2,c3,rfl,P,hb⟩;obtain⟨p0,p1,p2,p3,p4,p5,p6,q0,q1,q2,q3,t0,t1,m,n,p⟩:=P;clear t0 t1 m n p;have a:∀ o,w1.cell? ⟨w.heap.size,o,none⟩=(w.alloc (J5 #[J I f0,J I f1,J I f2,J I f3,J I bo,J I wa,J I bu] 35)).cell? ⟨w.heap.size,o,none⟩:=fun o=>hb.cell (by simp)
 have y:w1.cell? ⟨w.heap.size,0,none⟩=some (J I f0):=by rw[a];simp
 have z:w1.cell? ⟨w.heap.size,1,none⟩=some (J I f1):=by rw[a];simp
 have A:w1.cell? ⟨w.heap.size,2,none⟩=some (J I f2):=by rw[a];simp
 have B:w1.cell? ⟨w.heap.size,3,none⟩=some (J I f3):=by rw[a];simp
 have C:w1.cell? ⟨w.heap.size,4,none⟩=some (J I bo):=by rw[a];simp
 have D:w1.cell? ⟨w.heap.size,5,none⟩=some (J I wa):=by rw[a];simp
 have E:w1.cell? ⟨w.heap.size,6,none⟩=some (J I bu):=by rw[a];simp
 have q:Hid (Bl w w1):=(znw w _).trans (hb.mono (by simp))
 clear a hb;go_wp2;refine wp_loop_rounds 8 ?_
 iterate 8 (try (rw[rounds_succ];go_wp2_with (first
  | (go_at_call 169;refine (z1G _ _).mono ?_;rintro e b⟨rfl,rfl⟩)
  | (go_at_call 170;refine (z1o _ _).mono ?_;rintro e b⟨rfl,rfl⟩)
  | (go_at_call 192;refine (z5a _ _).mono ?_;rintro e b⟨rfl,rfl⟩)
  | (go_at_call 168;refine (z1p _ _ _ _ (by first | exact q0 | exact q1 | exact q2 | exact q3) (by decide) (by decide)).mono ?_;rintro e b⟨rfl,nq,rfl⟩))))
 go_ret;subst l;exact⟨rfl,below_drewN q.out _⟩
theorem wrap_add(a b:Int):wrap64 (wrap64 a+b)=wrap64 (a+b):=by
 unfold wrap64;omega
theorem j6R(f0 f1 f2 f3 bo wa bu:Int)(w:World):Calls prog 165 #[J4 #[J I f0,J I f1,J I f2,J I f3,J I bo,J I wa,J I bu]] w
  fun e w'=>e=.returned (J I (wrap64 (f0+f1+f2+f3+bo+wa+bu)))/\Bl w w':=by
 refine (j3g f0 f1 f2 f3 bo wa bu _ _ _ _ _ _ _ w rfl rfl rfl rfl rfl rfl rfl).mono ?_;rintro e w'⟨rfl,h⟩;refine⟨?_,h⟩;simp only[wrap_add];rw[show bo+wa+bu+f0+f1+f2+f3=f0+f1+f2+f3+bo+wa+bu by omega]
end
namespace Df
abbrev Pw:=Int×Int
def z8z(P:Nat->Int)(x:Pw):Nat->Int:=if 0<=x.1/\x.1<6 then (fun i=>if i=x.1.toNat then x.2 else P i) else P
def z2A:Nat->Int:=fun _=>0
def z1C(l:List Pw):Nat->Int:=l.foldr (fun x P=>z8z P x) z2A
def z1N(P:Nat->Int)(l:List Pw):Nat->Int:=l.foldl z8z P
def those(c:Nat->Bool)(f:Nat->Int)(n:Nat):List Pw:=(List.range n).filterMap fun v=>if c v=true then some ((v:Int),f v) else none
theorem z2h(c:Nat->Bool)(f:Nat->Int)(n:Nat):those c f (n+1)=if c n=true then those c f n ++ [((n:Int),f n)] else those c f n:=by
 unfold those;rw[List.range_succ,List.filterMap_append];cases h:c n <;> simp[h]
theorem z4b(c:Nat->Bool)(f:Nat->Int):∀ n,(those c f n).length<=n
 | 0=>by simp[those]
 | n+1=>by
  have:=z4b c f n;rw[z2h]
  split
  ·rw[List.length_append];simp;omega
  ·omega
def z3v(a b:List Pw):List Pw:=those (fun v=>decide (z1C b v≠z1C a v)) (z1C b) 6
def z2F(a d:List Pw):List Pw:=those (fun v=>decide (0<z1N (z1N z2A a) d v)) (z1N (z1N z2A a) d) 6
theorem z4c{P:Nat->Int}{n:Nat}{x:Int}(a:n<6)(i:Nat):z8z P ((n:Int),x) i=if i=n then x else P i:=by
 unfold z8z;rw[if_pos (by simp;omega)]
 simp
def q6d(l:List Pw):Int:=l.foldl (fun s x=>(s+x.2+9223372036854775808) % 18446744073709551616 - 9223372036854775808) 0
theorem q7e(l:List Pw)(k:Nat)(a:k<l.length):z1C (l.drop k)=z8z (z1C (l.drop (k+1))) (l.getD k (0,0)):=by
 unfold z1C;rw[List.drop_eq_getElem_cons a,List.foldr_cons,show l.getD k (0,0)=l[k] by simp[List.getD,a]]
theorem z9f(P:Nat->Int)(l:List Pw)(k:Nat)(a:k<l.length):z1N P (l.take (k+1))=z8z (z1N P (l.take k)) (l.getD k (0,0)):=by
 unfold z1N;rw[List.take_succ_eq_append_getElem a,List.foldl_append]
 simp[List.getD,a]
theorem j1X(l:List Pw)(k:Nat)(a:k<l.length):q6d (l.take (k+1))=(q6d (l.take k)+(l.getD k (0,0)).2+9223372036854775808) % 18446744073709551616 - 9223372036854775808:=by
 unfold q6d;rw[List.take_succ_eq_append_getElem a,List.foldl_append]
 simp[List.getD,a]
end Df
namespace Ra
open Go.RowKit
theorem y1V(x y:Int)(a:0<=x)(c:x<18446744073709551616)(b:0<=y)(d:y<18446744073709551616)(w:World) :
  Calls prog 166 #[.int .u64 x,.int .u64 y] w fun e w'=>e=.returned (.tuple #[.int .u64 (x * y / 18446744073709551616),.int .u64 (x * y % 18446744073709551616)])/\w'=w:=by
 have A:=mul64_arith x y a c b d
 go_enter func166,ntmps166
 go_wp2;simp only[IntKind.wrap_u64,and_low32 x a c,and_low32 y b d,and_low32 (_ % 18446744073709551616) (Int.emod_nonneg _ (by decide)) (Int.emod_lt_of_pos _ (by decide)),A]
 go_ret2;exact⟨rfl,rfl⟩
theorem q9c(x b:Nat)(h:2 ^ b<=x):bitLen x=b+bitLen (x / 2 ^ b):=
 bitLen_shift x b (by have:=(Nat.le_div_iff_mul_le (Nat.two_pow_pos b)).2 (show 1 * 2 ^ b<=x by omega);omega)
theorem shifted(x b p:Nat)(hp:2 ^ b=p)(h:p<=x):∃ z:Nat,(x:Int) / p=z/\bitLen x=b+bitLen z/\z=x / p:=by
 subst hp;exact⟨x / 2 ^ b,by rw[Int.natCast_ediv],q9c x b h,rfl⟩
theorem wrap_small(a:Nat)(h:a<=8):wrap64 (a:Int)=(a:Int):=by unfold wrap64;omega
theorem z4s(k a b:Nat)(c:k<=56)(h:a<=8)(e:b=k+a):wrap64 ((k:Int)+(a:Int))=(b:Int):=by unfold wrap64;omega
set_option maxRecDepth 1000000 in
theorem j3k(x:Nat)(a:x<18446744073709551616)(w:World) :
  Calls prog 184 #[.int .u64 x] w fun e w'=>e=.returned (J I (bitLen x))/\w'=w:=by
 by_cases h0:4294967296<=x
 ·have i0:(4294967296:Int)<=(x:Int):=by omega
  obtain⟨z,q0,h,f0⟩:=shifted x 32 4294967296 (by decide) h0
  simp only[Int.cast_ofNat_Int]at q0
  by_cases h1:65536<=z
  ·have i1:(65536:Int)<=(z:Int):=by omega
   obtain⟨y,q1,g,f1⟩:=shifted z 16 65536 (by decide) h1
   simp only[Int.cast_ofNat_Int]at q1
   by_cases h2:256<=y
   ·have d:(256:Int)<=(y:Int):=by omega
    obtain⟨v,q2,f,f2⟩:=shifted y 8 256 (by decide) h2
    simp only[Int.cast_ofNat_Int]at q2;have hb:=bitLen_le8 v (by omega)
    have j:(v:Int)<256:=by omega
    have e:bitLen x=56+bitLen v:=by clear h0 h1 h2 a hb j;omega
    have b:wrap64 ((bitLen v:Nat):Int)=(bitLen v:Nat):=wrap_small _ hb;have c:wrap64 (56+((bitLen v:Nat):Int))=(bitLen x:Nat):=z4s 56 _ _ (by decide) hb e
    clear e;clear hb h0 h1 h2 a h f0 g f1 f f2
    go_enter func184,ntmps184
    go_wp2;simp only[len8tab_get,b,c];go_ret;exact⟨rfl,rfl⟩
   ·have d:¬ (256:Int)<=(y:Int):=by omega
    have hb:=bitLen_le8 y (by omega)
    have j:(y:Int)<256:=by omega
    have e:bitLen x=48+bitLen y:=by clear h0 h1 h2 a hb j;omega
    have b:wrap64 ((bitLen y:Nat):Int)=(bitLen y:Nat):=wrap_small _ hb;have c:wrap64 (48+((bitLen y:Nat):Int))=(bitLen x:Nat):=z4s 48 _ _ (by decide) hb e
    clear e;clear hb h0 h1 h2 a h f0 g f1
    go_enter func184,ntmps184
    go_wp2;simp only[len8tab_get,b,c];go_ret;exact⟨rfl,rfl⟩
  ·have i1:¬ (65536:Int)<=(z:Int):=by omega
   by_cases h2:256<=z
   ·have d:(256:Int)<=(z:Int):=by omega
    obtain⟨v,q2,f,f2⟩:=shifted z 8 256 (by decide) h2
    simp only[Int.cast_ofNat_Int]at q2;have hb:=bitLen_le8 v (by omega)
    have j:(v:Int)<256:=by omega
    have e:bitLen x=40+bitLen v:=by clear h0 h1 h2 a hb j;omega
    have b:wrap64 ((bitLen v:Nat):Int)=(bitLen v:Nat):=wrap_small _ hb;have c:wrap64 (40+((bitLen v:Nat):Int))=(bitLen x:Nat):=z4s 40 _ _ (by decide) hb e
    clear e;clear hb h0 h1 h2 a h f0 f f2
    go_enter func184,ntmps184
    go_wp2;simp only[len8tab_get,b,c];go_ret;exact⟨rfl,rfl⟩
   ·have d:¬ (256:Int)<=(z:Int):=by omega
    have hb:=bitLen_le8 z (by omega)
    have j:(z:Int)<256:=by omega
    have e:bitLen x=32+bitLen z:=by clear h0 h1 h2 a hb j;omega
    have b:wrap64 ((bitLen z:Nat):Int)=(bitLen z:Nat):=wrap_small _ hb;have c:wrap64 (32+((bitLen z:Nat):Int))=(bitLen x:Nat):=z4s 32 _ _ (by decide) hb e
    clear e;clear hb h0 h1 h2 a h f0
    go_enter func184,ntmps184
    go_wp2;simp only[len8tab_get,b,c];go_ret;exact⟨rfl,rfl⟩
 ·have i0:¬ (4294967296:Int)<=(x:Int):=by omega
  by_cases h1:65536<=x
  ·have i1:(65536:Int)<=(x:Int):=by omega
   obtain⟨y,q1,g,f1⟩:=shifted x 16 65536 (by decide) h1
   simp only[Int.cast_ofNat_Int]at q1
   by_cases h2:256<=y
   ·have d:(256:Int)<=(y:Int):=by omega
    obtain⟨v,q2,f,f2⟩:=shifted y 8 256 (by decide) h2
    simp only[Int.cast_ofNat_Int]at q2;have hb:=bitLen_le8 v (by omega)
    have j:(v:Int)<256:=by omega
    have e:bitLen x=24+bitLen v:=by clear h0 h1 h2 a hb j;omega
    have b:wrap64 ((bitLen v:Nat):Int)=(bitLen v:Nat):=wrap_small _ hb;have c:wrap64 (24+((bitLen v:Nat):Int))=(bitLen x:Nat):=z4s 24 _ _ (by decide) hb e
    clear e;clear hb h0 h1 h2 a g f1 f f2
    go_enter func184,ntmps184
    go_wp2;simp only[len8tab_get,b,c];go_ret;exact⟨rfl,rfl⟩
   ·have d:¬ (256:Int)<=(y:Int):=by omega
    have hb:=bitLen_le8 y (by omega)
    have j:(y:Int)<256:=by omega
    have e:bitLen x=16+bitLen y:=by clear h0 h1 h2 a hb j;omega
    have b:wrap64 ((bitLen y:Nat):Int)=(bitLen y:Nat):=wrap_small _ hb;have c:wrap64 (16+((bitLen y:Nat):Int))=(bitLen x:Nat):=z4s 16 _ _ (by decide) hb e
    clear e;clear hb h0 h1 h2 a g f1
    go_enter func184,ntmps184
    go_wp2;simp only[len8tab_get,b,c];go_ret;exact⟨rfl,rfl⟩
  ·have i1:¬ (65536:Int)<=(x:Int):=by omega
   by_cases h2:256<=x
   ·have d:(256:Int)<=(x:Int):=by omega
    obtain⟨v,q2,f,f2⟩:=shifted x 8 256 (by decide) h2
    simp only[Int.cast_ofNat_Int]at q2;have hb:=bitLen_le8 v (by omega)
    have j:(v:Int)<256:=by omega
    have e:bitLen x=8+bitLen v:=by clear h0 h1 h2 a hb j;omega
    have b:wrap64 ((bitLen v:Nat):Int)=(bitLen v:Nat):=wrap_small _ hb;have c:wrap64 (8+((bitLen v:Nat):Int))=(bitLen x:Nat):=z4s 8 _ _ (by decide) hb e
    clear e;clear hb h0 h1 h2 a f f2
    go_enter func184,ntmps184
    go_wp2;simp only[len8tab_get,b,c];go_ret;exact⟨rfl,rfl⟩
   ·have d:¬ (256:Int)<=(x:Int):=by omega
    have hb:=bitLen_le8 x (by omega)
    have j:(x:Int)<256:=by omega
    have b:wrap64 ((bitLen x:Nat):Int)=(bitLen x:Nat):=wrap_small _ hb;clear hb h0 h1 h2 a
    go_enter func184,ntmps184
    go_wp2;simp only[len8tab_get,b];go_ret;exact⟨rfl,rfl⟩
theorem q7M(x:Nat)(a:x<18446744073709551616)(b:bitLen x<=64)(w:World) :
  Calls prog 191 #[.int .u64 x] w fun e w'=>e=.returned (J I (64 - bitLen x))/\w'=w:=by
 have c:=j3k x a w;generalize bitLen x=n at *
 go_enter func191,ntmps191
 go_wp2_with (go_at_call 184;refine c.mono ?_;rintro e w'⟨rfl,rfl⟩)
 go_ret;exact⟨rfl,rfl⟩
end Ra
namespace Mt
open Go.RowKit
def I64(a:Int):Prop:=-9223372036854775808<=a/\a<=9223372036854775807
def alw(a:Int):Int:=if a<5 then 1 else a / 5
theorem y2y(a:Int):1<=alw a:=by unfold alw;split <;> omega
theorem z0A(w:World)(o:Obj):Bl w (w.alloc o):=znw _ o
theorem z2g{w w1 a:World}(h:Bl w w1)(k:Bl w1 a):Bl w a:=zbt h k
theorem y2Y{a:Int}(h:I64 a)(b:5<=a):wrap64 (a.tdiv 5)=a / 5:=by
 unfold I64 at h;rw[Int.tdiv_eq_ediv_of_nonneg (by omega)]
 unfold wrap64;omega
theorem y1M{a:Int}(h:I64 a)(b:a<5):∃ q,wrap64 (a.tdiv 5)=q/\q<1:=by
 refine⟨_,rfl,?_⟩;unfold I64 at h
 by_cases h0:0<=a
 ·rw[Int.tdiv_eq_ediv_of_nonneg (by omega)]
  unfold wrap64;omega
 ·have e:a.tdiv 5=-((-a) / 5):=by
   rw[show a=-(-a) by omega,Int.neg_tdiv,Int.tdiv_eq_ediv_of_nonneg (by omega)]
   simp
  rw[e];unfold wrap64;omega
theorem j5B(a:Int)(h:I64 a)(w:World):Calls prog 53 #[J I a] w fun e w'=>e=.returned (J I (alw a))/\w=w':=by
 by_cases b:a<5
 ·obtain⟨q,d,c⟩:=y1M h b;rw[show alw a=1 from if_pos b];clear b h
  go_enter func53,ntmps53
  go_wp2;go_ret;exact⟨rfl,rfl⟩
 ·have d:=y2Y h (by omega)
  rw[show alw a=a / 5 from if_neg b];have c:1<=a / 5:=by omega
  generalize a / 5=q at *;clear b h
  go_enter func53,ntmps53
  go_wp2;go_ret;exact⟨rfl,rfl⟩
def MAt(w:World)(b:Nat)(l n:Int):Prop:=w.heap[b]?=some (J5 #[J I l,J I n] 55)
section
variable {w w':World} {b B:Nat} {l n:Int}
theorem MAt.later(h:MAt w b l n)(hb:Below B w w')(a:b<B):MAt w' b l n:=(hb.block b a).trans h
theorem MAt.new(w:World)(l n:Int):MAt (w.alloc (J5 #[J I l,J I n] 55)) w.heap.size l n:=heap_alloc_new _ _
theorem MAt.new2(w:World)(o:Obj)(l n:Int):MAt ((w.alloc o).alloc (J5 #[J I l,J I n] 55)) (w.heap.size+1) l n:=by
 have:=MAt.new (w.alloc o) l n
 rwa [show (w.alloc o).heap.size=w.heap.size+1 by simp]at this
theorem MAt.lt(h:MAt w b l n):b<w.heap.size:=(Array.getElem?_eq_some_iff.1 h).1
theorem MAt.facts(h:MAt w b l n):(w.cell? ⟨b,0,none⟩=some (J I l)/\w.cell? ⟨b,1,none⟩=some (J I n))/\(w.frozen? ⟨b,0,none⟩=false/\w.frozen? ⟨b,1,none⟩=false):=by
 unfold MAt at h
 simp[World.cell?,World.frozen?,h]
theorem MAt.set(h:MAt w b l n)(a c:Int):MAt ((w.setCell ⟨b,0,none⟩ (J I a)).setCell ⟨b,1,none⟩ (J I c)) b a c:=by
 unfold MAt at *
 simp[World.setCell,Array.getElem?_modify,h]
end
theorem z8k{f:Func}{p:Tmp}(a:f.results=#[.cell p 55]){w wq:World}{g:Nat}{l n:Int}(R:MAt wq g l n)(H:Bl w wq)(act:Act)(c:act.tmps.getD p undef=J2 (some ⟨g,0,none⟩))(hd:act.defers=[]) :
  bodyPost prog f (fun e w'=>e=.returned (J4 #[J I l,J I n])/\Bl w w') Exit.ret act wq:=by
 obtain⟨⟨d,u1⟩,-⟩:=R.facts;have b:act.tmps[p]?.getD undef=J2 (some ⟨g,0,none⟩):=by simpa using c
 exact bodyPost_ret (v:=J4 #[J I l,J I n]) (by simp[results,a,go_sem,b,d,u1]) hd ⟨rfl,H⟩
theorem z9e{f:Func}{p q:Tmp}(a:f.results=#[.cell p 55,.tmp q]){w wq:World}{g:Nat}{l n:Int}{t:Bool}(R:MAt wq g l n)(H:Bl w wq)(act:Act)(d:act.tmps.getD p undef=J2 (some ⟨g,0,none⟩))(h:act.tmps.getD q undef=J3 t)(hd:act.defers=[]) :
  bodyPost prog f (fun e w'=>e=.returned (.tuple #[J4 #[J I l,J I n],J3 t])/\Bl w w') Exit.ret act wq:=by
 obtain⟨⟨i,u1⟩,-⟩:=R.facts;have b:act.tmps[p]?.getD undef=J2 (some ⟨g,0,none⟩):=by simpa using d
 have c:act.tmps[q]?.getD undef=J3 t:=by simpa using h
 exact bodyPost_ret (v:=.tuple #[J4 #[J I l,J I n],J3 t]) (by simp[results,a,go_sem,b,c,i,u1]) hd ⟨rfl,H⟩
theorem q0D(w:World)(o p:Obj):Bl w ((w.alloc o).alloc p):=(z0A w o).alloc (by simp) p
theorem q4w(a t:Int)(h:I64 a)(w:World):Calls prog 31 #[J I a,J I t] w fun e w'=>e=.returned (J4 #[J I (alw a),J I (wrap64 (t+10))])/\Bl w w':=by
 have b:=j5B a h;generalize alw a=A at *
 go_enter func31,ntmps31
 go_wp2_with (go_at_call 53;refine (b _).mono ?_;rintro e c⟨rfl,rfl⟩)
 exact z8k results31 (MAt.new _ _ _) (z0A w _) _ rfl rfl
theorem q9M(l n a t:Int)(h:I64 a)(w:World):Calls prog 75 #[J4 #[J I l,J I n],J I a,J I t] w fun e w'=>e=.returned (J4 #[J I (if t<n then l else alw a),J I (if t<n then n else wrap64 (t+10))])/\Bl w w':=by
 have d:=q4w a t h;generalize alw a=A at *;generalize wrap64 (t+10)=T at *
 by_cases b:t<n
 ·rw[if_pos b,if_pos b]
  go_enter func75,ntmps75
  go_wp2;exact z8k results75 (MAt.new2 _ _ _ _) (q0D w _ _) _ rfl rfl
 ·rw[if_neg b,if_neg b];have R:=MAt.new2 w (J5 #[J I l,J I n] 55) 0 0;have B:=q0D w (J5 #[J I l,J I n] 55) (J5 #[J I 0,J I 0] 55)
  go_enter func75,ntmps75
  go_upto_region 3 with fail
  generalize ((w.alloc (J5 #[J I l,J I n] 55)).alloc (J5 #[J I 0,J I 0] 55))=w1 at *
  go_wp2_with (go_at_call 31;refine (d _).mono ?_;rintro e f⟨rfl,hb⟩;have c:=R.later hb R.lt;obtain⟨⟨c0,c1⟩,⟨f0,f1⟩⟩:=c.facts)
  exact z8k results75 (c.set _ _) (((z2g B hb).setCell (Nat.le_succ _) _).setCell (Nat.le_succ _) _) _ rfl rfl
theorem q7V(l n a:Int)(w:World):Calls prog 172 #[J4 #[J I l,J I n],J I a] w fun e w'=>e=.returned (.tuple #[J4 #[J I (if l<1 then l else wrap64 (l - a)),J I n],J3 (if l<1 then false else true)])/\Bl w w':=by
 by_cases b:l<1
 ·rw[if_pos b,if_pos b]
  go_enter func172,ntmps172
  go_wp2;exact z9e results172 (MAt.new2 _ _ _ _) (q0D w _ _) _ rfl rfl rfl
 ·rw[if_neg b,if_neg b]
  go_enter func172,ntmps172
  go_wp2;exact z9e results172 (MAt.new2 _ _ _ _) (q0D w _ _) _ rfl rfl rfl
end Mt
end Go.Proofs.YtddlhnoedldidaaGreat
