/- Parts of the proof. -/
import Derived.Test.YtmopekkhmhhcaaaGreatEL
import Derived.Test.YtmopekkhmhhcaaaGreatEK24
import Derived.Test.YtmopekkhmhhcaaaGreatEK26
set_option maxRecDepth 100000
set_option maxHeartbeats 16000000
namespace Go.Proofs.YtmopekkhmhhcaaaGreat
open Go.Proofs.Tryz
namespace Pv
open Go.RowKit
def z0D(P:Nat->Prop)(w:World)(v:Value)(sz bts:Nat)(cs:List Value):Prop:=∃ (A:Option Addr) (n C C':Nat),v=.slice A n C/\(A=none->C=0)/\Rep P w (.slice A n C') sz bts cs
section
variable {P P':Nat->Prop} {w w':World} {v:Value} {sz bts:Nat} {cs:List Value}
theorem Rep.c(h:Rep P w v sz bts cs):z0D P w v sz bts cs:=by
 obtain ⟨A,n,C,rfl,h2⟩:=id h;exact ⟨A,n,C,C,rfl,h2.2.2.1.1,h⟩
theorem z0D.nil(P:Nat->Prop)(w:World)(sz bts:Nat):z0D P w (.slice none 0 0) sz bts []:=(Rep.nil P w sz bts).c
theorem z0D.mono(h:z0D P w v sz bts cs)(hp:∀ b,b<w.heap.size->P b->P' b):z0D P' w v sz bts cs:=by
 obtain ⟨A,n,C,C',h1,h2,h3⟩:=h;exact ⟨A,n,C,C',h1,h2,h3.mono hp⟩
theorem z0D.keep(h:z0D P w v sz bts cs)(hk:∀ b,P b->b<w.heap.size->w'.heap[b]?=w.heap[b]?):z0D P w' v sz bts cs:=by
 obtain ⟨A,n,C,C',h1,h2,h3⟩:=h;exact ⟨A,n,C,C',h1,h2,h3.keep hk⟩
theorem z0D.over(h:z0D P w v sz bts cs)(hb:Below w.heap.size w w'):z0D P w' v sz bts cs:=h.keep fun b _ hlt=>hb.block b hlt
theorem z0D.one(h:z0D P w v sz bts cs):v.oneCell'=true:=by
 obtain ⟨A,n,C,C',rfl,_⟩:=h;rfl
theorem z0D.line{x:Ln.Line}{v1 v2:Value}(h1:z0D P w v1 1 16 (txC x.S))(h2:z0D P w v2 1 8 (inC x.D)):∃ A1 C1 A2 C2 sb so db dO,v1=.slice A1 x.S.length C1/\v2=.slice A2 x.D.length C2/\Ln.LAt w x A1 A2 C1 C2 sb so db dO/\(0<x.S.length->P sb)/\(0<x.D.length->P db):=by
 obtain ⟨A,n,C,C',rfl,n1,r1⟩:=h1;obtain ⟨B,m,D,D',rfl,n2,r2⟩:=h2;obtain ⟨A1,C1,A2,C2,sb,so,db,dO,e1,e2,L,p1,p2⟩:=Rep.line r1 r2;cases e1;cases e2;exact ⟨_,_,_,_,sb,so,db,dO,rfl,rfl,⟨L.hls,L.hld,L.hsa,L.hda,n1,n2,L.PS,L.PD⟩,p1,p2⟩
theorem j4q{x:Ln.Line}{sa da:Option Addr}{cs cd sb so db dO:Nat}(L:Ln.LAt w x sa da cs cd sb so db dO)(hp:0<x.S.length->P sb):z0D P w (.slice sa x.S.length cs) 1 16 (txC x.S):=by
 refine ⟨sa,x.S.length,cs,x.S.length,rfl,L.ncs,sa,x.S.length,x.S.length,rfl,z1P _,L.hls,⟨fun e=>?_,Nat.le_refl _⟩,fun h0=>⟨sb,so,L.hsa h0,hp h0,L.ltS h0,fun j u hu=>?_⟩⟩
 ·rcases Nat.eq_zero_or_pos x.S.length with h | h
  ·exact h
  ·rw[L.hsa h]at e;cases e
 ·have hj:j<x.S.length:=by have:=(List.getElem?_eq_some_iff.1 hu).1;rw[z1P]at this;omega
  rw[L.PS j hj,← hu,z7t _ j hj]
theorem j3Z{x:Ln.Line}{sa da:Option Addr}{cs cd sb so db dO:Nat}(L:Ln.LAt w x sa da cs cd sb so db dO)(hp:0<x.D.length->P db):z0D P w (.slice da x.D.length cd) 1 8 (inC x.D):=by
 refine ⟨da,x.D.length,cd,x.D.length,rfl,L.ncd,da,x.D.length,x.D.length,rfl,z0n _,L.hld,⟨fun e=>?_,Nat.le_refl _⟩,fun h0=>⟨db,dO,L.hda h0,hp h0,L.ltD h0,fun j u hu=>?_⟩⟩
 ·rcases Nat.eq_zero_or_pos x.D.length with h | h
  ·exact h
  ·rw[L.hda h]at e;cases e
 ·have hj:j<x.D.length:=by have:=(List.getElem?_eq_some_iff.1 hu).1;rw[z0n]at this;omega
  rw[L.PD j hj,← hu,z4q _ j hj]
end
def j8e(P:Nat->Prop)(w:World)(x:Ln.Line)(er:Int)(e:Ending)(w':World):Prop:=∃ u1 u2,e=.returned (.tuple #[.agg #[u1,u2,.int .i64 x.g,.bool x.cl],.int .i64 er])/\z0D (New P w 0) w' u1 1 16 (txC x.S)/\z0D (New P w 0) w' u2 1 8 (inC x.D)/\Below w.heap.size w w'
theorem j4z{P:Nat->Prop}{w w':World}{x y:Ln.Line}{er:Int}{e:Ending}{A1 A2:Option Addr}{C1 C2 sb so db dO:Nat}(L:Ln.LAt w x A1 A2 C1 C2 sb so db dO)(p1:0<x.S.length->P sb)(p2:0<x.D.length->P db)(h:Ln.Ans sb db x w (y,er) e w'):j8e P w y er e w':=by
 obtain ⟨v,rfl,⟨sa,da,cs,cd,sb',so',db',dO',rfl,L',s1,s2⟩,hb⟩:=h;refine ⟨_,_,rfl,j4q L' fun h0=>?_,j3Z L' fun h0=>?_,hb⟩
 ·rcases (s1 h0).2 with ⟨rfl,e⟩ | h
  ·rw[e]at h0;exact .inl ⟨p1 h0,L.ltS h0⟩
  ·exact .inr h
 ·rcases (s2 h0).2 with ⟨rfl,e⟩ | h
  ·rw[e]at h0;exact .inl ⟨p2 h0,L.ltD h0⟩
  ·exact .inr h
theorem q7X(x:Ln.Line)(s:ByteArray)(due:Int)(v1 v2:Value)(P:Nat->Prop)(w:World)(h1:z0D P w v1 1 16 (txC x.S))(h2:z0D P w v2 1 8 (inC x.D)):Calls prog 123 #[.agg #[v1,v2,.int .i64 x.g,.bool x.cl],.string s,.int .i64 due] w (j8e P w (Ln.z4W x s due) (Ln.z6h x due)):=by
 obtain ⟨A1,C1,A2,C2,sb,so,db,dO,rfl,rfl,L,p1,p2⟩:=z0D.line h1 h2;exact (Ln.j3r x A1 A2 C1 C2 sb so db dO s due w L).mono fun e w' h=>j4z L p1 p2 h
theorem q7F(x:Ln.Line)(v1 v2:Value)(P:Nat->Prop)(w:World)(h1:z0D P w v1 1 16 (txC x.S))(h2:z0D P w v2 1 8 (inC x.D)):Calls prog 145 #[.agg #[v1,v2,.int .i64 x.g,.bool x.cl]] w fun e w'=>e=.returned (.bool (Ln.z0W x))/\Below w.heap.size w w':=by
 obtain ⟨A1,C1,A2,C2,sb,so,db,dO,rfl,rfl,L,-,-⟩:=z0D.line h1 h2;exact Ln.z0l x A1 A2 C1 C2 sb so db dO w L
end Pv
namespace Cd
open Go.RowKit
def Bytes(l:List Int):Prop:=∀ c∈l,0<=c/\c<256
theorem z3Q{m:Nat}{st:List Int×Bool}(h:Bytes st.1):Bytes (tk m st).2.1:=by
 unfold tk
 split
 ·intro c hc;simp at hc
 ·intro c hc;exact h c (List.mem_of_mem_drop hc)
theorem j2P{st:List Int×Bool}(h:Bytes st.1):0<=(tk 1 st).1/\(tk 1 st).1<256:=by
 unfold tk
 split
 ·simp
 ·rename_i hl
  match hs:st.1,hl with
  | c :: t,_ =>
   have:=h c (by rw[hs];exact List.mem_cons_self ..)
   simp[z4X];omega
theorem q9z:∀ (m:Nat) (st:List Int×Bool),Bytes st.1->Bytes (tkP m st).2.1:=by
 intro m
 induction m with
 | zero=>intro st h;exact h
 | succ m ih=>intro st h;exact ih _ (z3Q (z3Q h))
def p1(l:List Int):Int×(List Int×Bool):=tk 1 (l,false)
def p2(l:List Int):Int×(List Int×Bool):=tk 6 (p1 l).2
def p3(l:List Int):Int×(List Int×Bool):=tk 1 (p2 l).2
def p4(l:List Int):Int×(List Int×Bool):=tk 7 (p3 l).2
def p5(l:List Int):Int×(List Int×Bool):=tk 1 (p4 l).2
def p6(l:List Int):List (Int×Int)×(List Int×Bool):=tkP (p5 l).1.toNat (p5 l).2
def p7(l:List Int):Int×(List Int×Bool):=tk 1 (p6 l).2
def p8(l:List Int):List Int×(List Int×Bool):=tkD (p7 l).1.toNat (p7 l).2
def parse(l:List Int):(Int×Int×Int×Int×List (Int×Int)×List Int)×(List Int×Bool):=(((p1 l).1,(p2 l).1,(p3 l).1,(p4 l).1,(p6 l).1,(p8 l).1),(p8 l).2)
theorem z6q(l:List Int)(h:Bytes l):0<=(p5 l).1/\(p5 l).1<256/\0<=(p7 l).1/\(p7 l).1<256:=by
 have h1:Bytes (p1 l).2.1:=by unfold p1;exact z3Q h
 have h2:Bytes (p2 l).2.1:=by unfold p2;exact z3Q h1
 have h3:Bytes (p3 l).2.1:=by unfold p3;exact z3Q h2
 have h4:Bytes (p4 l).2.1:=by unfold p4;exact z3Q h3
 have h5:Bytes (p5 l).2.1:=by unfold p5;exact z3Q h4
 have b5:0<=(p5 l).1/\(p5 l).1<256:=by unfold p5;exact j2P h4
 have h6:Bytes (p6 l).2.1:=by unfold p6;exact q9z _ _ h5
 have b6:0<=(p7 l).1/\(p7 l).1<256:=by unfold p7;exact j2P h6
 exact ⟨b5.1,b5.2,b6.1,b6.2⟩
def z7G(l:List Int):Int:=if (parse l).2=([],false) then z0q (parse l).1.1 (parse l).1.2.1 (parse l).1.2.2.1 (parse l).1.2.2.2.1 (parse l).1.2.2.2.2.1 (parse l).1.2.2.2.2.2 else 1
def z2o(l:List Int):Int×Int×Int×Int×List (Int×Int)×List Int:=if z7G l=0 then (parse l).1 else (0,0,0,0,[],[])
theorem flat_get(l:List (Int×Int)):∀ i,i<l.length->(l.flatMap fun p=>[Value.int .i64 p.1,Value.int .i64 p.2])[i * 2]?=some (.int .i64 (l.getD i (0,0)).1)/\(l.flatMap fun p=>[Value.int .i64 p.1,Value.int .i64 p.2])[i * 2+1]?=some (.int .i64 (l.getD i (0,0)).2):=by
 induction l with
 | nil=>intro i hi;simp at hi
 | cons a t ih =>
  intro i hi
  match i with
  | 0=>simp
  | i+1 =>
   have:=ih i (by simpa using hi)
   rw[List.flatMap_cons,show (i+1) * 2=i * 2+1+1 by omega]
   simpa using this
theorem q0Z.lies{w:World}{B:Nat}{u:Value}{l:List (Int×Int)}(h:q0Z w B u l):∃ a c g,u=.slice a l.length c/\l.length<=maxLen/\(0<l.length->a=some ⟨g,0,none⟩)/\z4S w g 0 l/\(0<l.length->B<=g)/\((a=none->c=0)/\l.length<=c):=by
 rcases h.2 with ⟨rfl,h0⟩ | ⟨g,cap,cur,rfl,hb,hh,hn,hm,hs,ht⟩
 ·exact ⟨none,0,0,by rw[h0],by omega,by omega,fun i hi=>by omega,by omega,fun _=>rfl,by omega⟩
 ·refine ⟨_,cap,g,rfl,by omega,fun _=>rfl,fun i hi=>?_,fun _=>hb,fun h=>(by cases h),hn⟩
  have h':w.ownsRow B 68 2 (.slice (some ⟨g,0,none⟩) l.length cap) l.length (l.flatMap fun p=>[Value.int .i64 p.1,Value.int .i64 p.2]):=h;rw[Nat.zero_add,h'.cellAt _ (by omega),h'.cellAt _ (by omega)]
  exact flat_get l i hi
theorem Row1.lies{w:World}{B:Nat}{u:Value}{l:List Int}(h:Row1 w B u l):∃ a c g,u=.slice a l.length c/\l.length<=maxLen/\(0<l.length->a=some ⟨g,0,none⟩)/\z0Z w g 0 l/\(0<l.length->B<=g)/\((a=none->c=0)/\l.length<=c):=by
 rcases h.2 with ⟨rfl,h0⟩ | ⟨g,cap,cur,rfl,hb,hh,hn,hm,hs,ht⟩
 ·exact ⟨none,0,0,by rw[h0],by omega,by omega,fun i hi=>by omega,by omega,fun _=>rfl,by omega⟩
 ·refine ⟨_,cap,g,rfl,by omega,fun _=>rfl,fun i hi=>?_,fun _=>hb,fun h=>(by cases h),hn⟩
  have h':w.ownsRow B 3 1 (.slice (some ⟨g,0,none⟩) l.length cap) l.length (l.map (Value.int .i64)):=h;rw[Nat.zero_add,h'.cellAt _ (by omega)]
  simp[List.getD,hi]
theorem q0G(b:Nat)(l:List Int)(w:World)(hT:TS w b (l,false))(hl:Bytes l) :
  Calls prog 33 #[.pointer (some ⟨b,0,none⟩)] w fun e w'=>∃ u d,e=.returned (.agg #[.int .i64 (parse l).1.1,.int .i64 (parse l).1.2.1,.int .i64 (parse l).1.2.2.1,.int .i64 (parse l).1.2.2.2.1,u,d])/\q0Z w' (w.heap.size+2) u (parse l).1.2.2.2.2.1/\Row1 w' (w.heap.size+2) d (parse l).1.2.2.2.2.2/\TS w' b (parse l).2/\w.grownBy w' (some b):=by
 obtain ⟨a1,a2,a3,a4⟩:=z6q l hl
 rcases e1:p1 l with ⟨k,s1⟩
 rcases e2:p2 l with ⟨i,s2⟩
 rcases e3:p3 l with ⟨v,s3⟩
 rcases e4:p4 l with ⟨n,s4⟩
 rcases e5:p5 l with ⟨c,s5⟩
 rcases e6:p6 l with ⟨S,s6⟩
 rcases e7:p7 l with ⟨d,s7⟩
 rcases e8:p8 l with ⟨D,s8⟩
 have ep:parse l=((k,i,v,n,S,D),s8):=by rw[parse,e1,e2,e3,e4,e6,e8]
 rw[ep];rw[e5]at a1 a2;rw[e7]at a3 a4;rw[p1]at e1;rw[p2,p1,e1]at e2;rw[p3,p2,p1,e1,e2]at e3;rw[p4,p3,p2,p1,e1,e2,e3]at e4;rw[p5,p4,p3,p2,p1,e1,e2,e3,e4]at e5;rw[p6,p5,p4,p3,p2,p1,e1,e2,e3,e4,e5]at e6;rw[p7,p6,p5,p4,p3,p2,p1,e1,e2,e3,e4,e5,e6]at e7;rw[p8,p7,p6,p5,p4,p3,p2,p1,e1,e2,e3,e4,e5,e6,e7]at e8;dsimp only at a1 a2 a3 a4 e6 e8;refine q5J b (l,false) s1 s2 s3 s4 s5 s6 s7 s8 k i v n c.toNat d.toNat S D w hT e1 e2 e3 e4 ?_ e6 ?_ e8 (by omega) (by omega)
 ·rw[Int.toNat_of_nonneg a1];exact e5
 ·rw[Int.toNat_of_nonneg a3];exact e7
theorem z2B.six{w:World}{b:Nat}{k i v n s d:Value}(h:z2B w b k i v n s d):∀ o,o<6->∃ u,w.cell? ⟨b,o,none⟩=some u:=fun o ho=>by
 obtain ⟨d0,d1,d2,d3,d4,d5,_⟩:=h.cells
 match o,ho with
 | 0,_=>exact ⟨_,d0⟩
 | 1,_=>exact ⟨_,d1⟩
 | 2,_=>exact ⟨_,d2⟩
 | 3,_=>exact ⟨_,d3⟩
 | 4,_=>exact ⟨_,d4⟩
 | 5,_=>exact ⟨_,d5⟩
theorem j3T{w w1:World}{k i v n s d:Value}(hR:z2B w1 w.heap.size k i v n s d)(hB:Below w.heap.size w w1)(v0 v1 v2 v3 v4 v5:Value)(o:Obj) :
  ((z3t w1 w.heap.size v0 v1 v2 v3 v4 v5).alloc o).cell? ⟨w.heap.size,0,none⟩=some v0/\((z3t w1 w.heap.size v0 v1 v2 v3 v4 v5).alloc o).cell? ⟨w.heap.size,1,none⟩=some v1/\((z3t w1 w.heap.size v0 v1 v2 v3 v4 v5).alloc o).cell? ⟨w.heap.size,2,none⟩=some v2 /\
  ((z3t w1 w.heap.size v0 v1 v2 v3 v4 v5).alloc o).cell? ⟨w.heap.size,3,none⟩=some v3/\((z3t w1 w.heap.size v0 v1 v2 v3 v4 v5).alloc o).cell? ⟨w.heap.size,4,none⟩=some v4/\((z3t w1 w.heap.size v0 v1 v2 v3 v4 v5).alloc o).cell? ⟨w.heap.size,5,none⟩=some v5 /\
  Below w.heap.size w ((z3t w1 w.heap.size v0 v1 v2 v3 v4 v5).alloc o):=by
 obtain ⟨e0,e1,e2,e3,e4,e5⟩:=z4s (w:=w1) (b:=w.heap.size) v0 v1 v2 v3 v4 v5 hR.six;have hb:=z0s (z3t w1 w.heap.size v0 v1 v2 v3 v4 v5) o;have hlt:w.heap.size<(z3t w1 w.heap.size v0 v1 v2 v3 v4 v5).heap.size:=World.block_lt_of_cell? _ _ e0
 exact ⟨(hb.cell (p:=⟨w.heap.size,0,none⟩) hlt).trans e0,(hb.cell (p:=⟨w.heap.size,1,none⟩) hlt).trans e1,(hb.cell (p:=⟨w.heap.size,2,none⟩) hlt).trans e2,(hb.cell (p:=⟨w.heap.size,3,none⟩) hlt).trans e3,(hb.cell (p:=⟨w.heap.size,4,none⟩) hlt).trans e4,(hb.cell (p:=⟨w.heap.size,5,none⟩) hlt).trans e5,
  z1Q (z3v v0 v1 v2 v3 v4 v5 hB (Nat.le_refl _)) hb⟩
theorem q2o(w:World):q5L w [] [] none none 0 0 0 0:=⟨by simp,by simp,by simp,by simp,fun i hi=>absurd hi (by simp),fun i hi=>absurd hi (by simp)⟩
theorem q5L.z3t{w:World}{S:List (Int×Int)}{D:List Int}{sa da:Option Addr}{sb so db dO:Nat}(L:q5L w S D sa da sb so db dO)(c:Nat)(hc:(0<S.length->sb≠c)/\(0<D.length->db≠c))(v0 v1 v2 v3 v4 v5:Value):q5L (z3t w c v0 v1 v2 v3 v4 v5) S D sa da sb so db dO:=by
 refine ⟨L.hls,L.hld,L.hsa,L.hda,fun i hi=>?_,fun i hi=>?_⟩
 ·have h:=L.PS i hi;exact ⟨(cell_of_heap (z6c v0 v1 v2 v3 v4 v5 (hc.1 (by omega))) _).trans h.1,(cell_of_heap (z6c v0 v1 v2 v3 v4 v5 (hc.1 (by omega))) _).trans h.2⟩
 ·exact (cell_of_heap (z6c v0 v1 v2 v3 v4 v5 (hc.2 (by omega))) _).trans (L.PD i hi)
def Rm(B:Nat)(a:Option Addr)(n c g:Nat):Prop:=(a=none->c=0)/\n<=c/\(0<n->B<=g)
theorem j3i(B:Nat):Rm B none ([]:List (Int×Int)).length 0 0/\Rm B none ([]:List Int).length 0 0:=⟨⟨fun _=>rfl,by simp,by simp⟩,⟨fun _=>rfl,by simp,by simp⟩⟩
theorem z8H(s:ByteArray)(w:World)(hs:s.size<=maxLen) :
  Calls prog 16 #[.string s] w fun e w'=>∃ sa da cs cd sb so db dO,
   e=.returned (.tuple #[.agg #[.int .i64 (z2o (bs s)).1,.int .i64 (z2o (bs s)).2.1,.int .i64 (z2o (bs s)).2.2.1,.int .i64 (z2o (bs s)).2.2.2.1,.slice sa (z2o (bs s)).2.2.2.2.1.length cs,.slice da (z2o (bs s)).2.2.2.2.2.length cd],.int .i64 (z7G (bs s))]) /\
   q5L w' (z2o (bs s)).2.2.2.2.1 (z2o (bs s)).2.2.2.2.2 sa da sb so db dO/\(Rm w.heap.size sa (z2o (bs s)).2.2.2.2.1.length cs sb/\Rm w.heap.size da (z2o (bs s)).2.2.2.2.2.length cd db)/\Below w.heap.size w w':=by
 have HE:Hid (z7G (bs s)=if (parse (bs s)).2=([],false) then z0q (parse (bs s)).1.1 (parse (bs s)).1.2.1 (parse (bs s)).1.2.2.1 (parse (bs s)).1.2.2.2.1 (parse (bs s)).1.2.2.2.2.1 (parse (bs s)).1.2.2.2.2.2 else 1):=rfl;have HP:Hid (z2o (bs s)=if z7G (bs s)=0 then (parse (bs s)).1 else (0,0,0,0,[],[])):=rfl;generalize z7G (bs s)=E at *;generalize z2o (bs s)=R at *;have hpk:=fun (w:World) (b:Nat) (h:TS w b (bs s,false))=>q0G b (bs s) w h (z9y s);have HPK:Hid _:=hpk;clear hpk;generalize parse (bs s)=pr at *;obtain ⟨⟨k,i,v,n,S,D⟩,st⟩:=pr;dsimp only at HE HP HPK
 go_enter func16,ntmps16
 go_wp2_with fail
 have hTS:TS ((w.alloc (Obj.cells #[Value.int IntKind.i64 0,Value.int IntKind.i64 0,Value.int IntKind.i64 0,Value.int IntKind.i64 0,Value.slice none 0 0,Value.slice none 0 0] 70)).alloc (Obj.cells #[Value.string s,Value.bool false] 104)) (w.heap.size+1) (bs s,false):=by
  refine ⟨s,?_,rfl,hs⟩;unfold TAt;have e:w.heap.size+1=(w.alloc (Obj.cells #[Value.int IntKind.i64 0,Value.int IntKind.i64 0,Value.int IntKind.i64 0,Value.int IntKind.i64 0,Value.slice none 0 0,Value.slice none 0 0] 70)).heap.size:=by simp
  rw[e];exact heap_alloc_new _ _
 refine (HPK.out _ _ hTS).mono ?_;rintro e w1 ⟨u,d,rfl,hr2,hr1,hT1,hg1⟩;have hz1:w.heap.size+2<=w1.heap.size:=by have:=hg1.size;simpa using this
 have hB1:Below w.heap.size w w1:=by
  have hb0:Below w.heap.size w ((w.alloc (Obj.cells #[Value.int IntKind.i64 0,Value.int IntKind.i64 0,Value.int IntKind.i64 0,Value.int IntKind.i64 0,Value.slice none 0 0,Value.slice none 0 0] 70)).alloc (Obj.cells #[Value.string s,Value.bool false] 104)):=(z0s w _).alloc (by simp) _
  exact hb0.grown hg1 (by simp;omega) (fun k hk=>by cases hk;omega)
 have hR1:z2B w1 w.heap.size (.int .i64 0) (.int .i64 0) (.int .i64 0) (.int .i64 0) (.slice none 0 0) (.slice none 0 0):=by
  refine z2B.keep (w:=(w.alloc (Obj.cells #[Value.int IntKind.i64 0,Value.int IntKind.i64 0,Value.int IntKind.i64 0,Value.int IntKind.i64 0,Value.slice none 0 0,Value.slice none 0 0] 70)).alloc (Obj.cells #[Value.string s,Value.bool false] 104)) ?_ hg1 (by simp)
  exact (Below.heap_alloc _ _ _ (by simp)).trans (heap_alloc_new _ _)
 obtain ⟨ua,uc,ug,rfl,l1,l2,l3,l4,l5⟩:=hr2.lies;obtain ⟨xa,xc,xg,rfl,m1,m2,m3,m4,m5⟩:=hr1.lies;have HRM:Hid (Rm w.heap.size ua S.length uc ug/\Rm w.heap.size xa D.length xc xg):=⟨⟨l5.1,l5.2,fun h=>by have:=l4 h;simp at this;omega⟩,⟨m5.1,m5.2,fun h=>by have:=m4 h;simp at this;omega⟩⟩
 clear l5 m5;have HNE:Hid ((0<S.length->ug≠w.heap.size)/\(0<D.length->xg≠w.heap.size)):=⟨fun h e=>by have:=l4 h;simp at this;omega,fun h e=>by have:=m4 h;simp at this;omega⟩
 have L1:q5L w1 S D ua xa ug 0 xg 0:=⟨l1,m1,l2,m2,l3,m3⟩;obtain ⟨r,hTA,hbr,hrs⟩:=hT1;clear hr2 hr1 l1 l2 l3 l4 m1 m2 m3 m4 hg1 HPK hTS;obtain ⟨rest,sh⟩:=st;dsimp only at hTA hbr;subst hbr;obtain ⟨t0,t1,tf0,tf1⟩:=hTA.cells;have hz1a:w.heap.size<w1.heap.size:=by omega
 have hz1b:w.heap.size+1<w1.heap.size:=by omega
 obtain ⟨d0,d1,d2,d3,d4,d5,df⟩:=hR1.cells;unfold maxLen at hrs
 by_cases hst:(bs r,sh)=(([]:List Int),false)
 ·have HE1:Hid (E=z0q k i v n S D):=by show _=_;rw[HE.out,if_pos hst]
  obtain ⟨hcl,rfl⟩:=Prod.mk.inj hst;have hr0:r.size=0:=by rw[← z2p,hcl];rfl
  have hn:((r.size:Int) != 0)=false:=by rw[hr0];rfl
  clear HE hst hcl hr0;have LB:=L1.later (z0s w1 (Obj.cells #[Value.int IntKind.i64 k,Value.int IntKind.i64 i,Value.int IntKind.i64 v,Value.int IntKind.i64 n,Value.slice ua S.length uc,Value.slice xa D.length xc] 70));have hgood:=z0l k i v n S D ua xa uc xc ug 0 xg 0 _ LB.hls LB.hld LB.hsa LB.hda LB.PS LB.PD;have PKB:=q2E w1 k i v n (.slice ua S.length uc) (.slice xa D.length xc)
  go_wp2_with fail
  refine hgood.mono ?_;rintro e w2 ⟨rfl,hb2⟩;have PK2:=PKB.later hb2 (by simp)
  have hbs:=z2E hb2;have L2:=L1.later hbs;have hB2:=z1Q hB1 hbs;have hR2:z2B w2 w.heap.size (.int .i64 0) (.int .i64 0) (.int .i64 0) (.int .i64 0) (.slice none 0 0) (.slice none 0 0):=hR1.keep (r:=none) ⟨hbs.os,hbs.tape,hbs.output,hbs.size,fun k hk _=>hbs.block k hk⟩ (by simp)
  clear hgood hb2 PKB hbs L1 hB1 hR1 LB t0 t1 tf0 tf1 d0 d1 d2 d3 d4 d5 df hTA;obtain ⟨d0,d1,d2,d3,d4,d5,df⟩:=hR2.cells;obtain ⟨c0,c1,c2,c3,c4,c5⟩:=id PK2
  by_cases hG:z0q k i v n S D=0
  ·have HP1:Hid (R=(k,i,v,n,S,D)):=by show _=_;rw[HP.out,HE1.out,if_pos hG]
   have HE2:Hid (E=0):=HE1.out.trans hG;rw[hG]at *;have HC:Hid _:=z4s (w:=w2) (b:=w.heap.size) (.int .i64 k) (.int .i64 i) (.int .i64 v) (.int .i64 n) (.slice ua S.length uc) (.slice xa D.length xc) hR2.six;have HBB:Hid _:=z3v (b:=w.heap.size) (.int .i64 k) (.int .i64 i) (.int .i64 v) (.int .i64 n) (.slice ua S.length uc) (.slice xa D.length xc) hB2 (Nat.le_refl _);have HLL:Hid _:=L2.z3t w.heap.size HNE.out (.int .i64 k) (.int .i64 i) (.int .i64 v) (.int .i64 n) (.slice ua S.length uc) (.slice xa D.length xc);clear HP HE1 hB2 hR2 L2 HNE PK2;go_wp2
   show bodyPost prog f16 _ Exit.ret _ (z3t w2 w.heap.size (.int .i64 k) (.int .i64 i) (.int .i64 v) (.int .i64 n) (.slice ua S.length uc) (.slice xa D.length xc))
   obtain ⟨e0,e1,e2,e3,e4,e5⟩:=HC.out;have hBB:=HBB.out;have hLL:=HLL.out;clear HC HBB HLL;generalize z3t w2 w.heap.size (.int .i64 k) (.int .i64 i) (.int .i64 v) (.int .i64 n) (.slice ua S.length uc) (.slice xa D.length xc)=w9 at *
   exact bodyPost_ret (v:=.tuple #[.agg #[.int .i64 k,.int .i64 i,.int .i64 v,.int .i64 n,.slice ua S.length uc,.slice xa D.length xc],.int .i64 0]) (by simp[results,results16,go_sem,e0,e1,e2,e3,e4,e5]) rfl
    ⟨ua,xa,uc,xc,ug,0,xg,0,by rw[HE2.out,HP1.out],by rw[HP1.out];exact hLL,by rw[HP1.out];exact HRM.out,hBB⟩
  ·have HP1:Hid (R=(0,0,0,0,[],[])):=by show _=_;rw[HP.out,HE1.out,if_neg hG]
   have hGb:(z0q k i v n S D != 0)=true:=by simpa using hG
   have HC:Hid _:=z4s (w:=w2) (b:=w.heap.size) (.int .i64 0) (.int .i64 0) (.int .i64 0) (.int .i64 0) (.slice none 0 0) (.slice none 0 0) hR2.six;have HBB:Hid _:=z3v (b:=w.heap.size) (.int .i64 0) (.int .i64 0) (.int .i64 0) (.int .i64 0) (.slice none 0 0) (.slice none 0 0) hB2 (Nat.le_refl _);clear HP hB2 hR2 L2 HNE PK2 hG;generalize z0q k i v n S D=G at *;go_wp2
   show bodyPost prog f16 _ Exit.ret _ (z3t w2 w.heap.size (.int .i64 0) (.int .i64 0) (.int .i64 0) (.int .i64 0) (.slice none 0 0) (.slice none 0 0))
   obtain ⟨e0,e1,e2,e3,e4,e5⟩:=HC.out;have hBB:=HBB.out;clear HC HBB;generalize z3t w2 w.heap.size (.int .i64 0) (.int .i64 0) (.int .i64 0) (.int .i64 0) (.slice none 0 0) (.slice none 0 0)=w9 at *
   exact bodyPost_ret (v:=.tuple #[.agg #[.int .i64 0,.int .i64 0,.int .i64 0,.int .i64 0,.slice none 0 0,.slice none 0 0],.int .i64 G]) (by simp[results,results16,go_sem,e0,e1,e2,e3,e4,e5]) rfl
    ⟨none,none,0,0,0,0,0,0,by rw[HE1.out,HP1.out];rfl,by rw[HP1.out];exact q2o _,by rw[HP1.out];exact j3i _,hBB⟩
 ·have HE1:Hid (E=1):=by show _=_;rw[HE.out,if_neg hst]
  have HP1:Hid (R=(0,0,0,0,[],[])):=by show _=_;rw[HP.out,HE1.out,if_neg (by decide)]
  have HEND:Hid _:=j3T hR1 hB1 (.int .i64 0) (.int .i64 0) (.int .i64 0) (.int .i64 0) (.slice none 0 0) (.slice none 0 0) (Obj.cells #[Value.int IntKind.i64 k,Value.int IntKind.i64 i,Value.int IntKind.i64 v,Value.int IntKind.i64 n,Value.slice ua S.length uc,Value.slice xa D.length xc] 70)
  have hn:sh=true∨(sh=false/\((r.size:Int) != 0)=true):=by
   cases sh with
   | true=>exact .inl rfl
   | false =>
    refine .inr ⟨rfl,?_⟩;have:r.size≠0:=fun h=>hst (by rw[List.eq_nil_of_length_eq_zero (show (bs r).length=0 by rw[z2p];exact h)])
    rw[bne_iff_ne];omega
  clear HE HP hst hR1 hB1 L1 HNE hTA
  rcases hn with rfl | ⟨rfl,hn⟩
  all_goals
   go_wp2
   show bodyPost prog f16 _ Exit.ret _ ((z3t w1 w.heap.size (.int .i64 0) (.int .i64 0) (.int .i64 0) (.int .i64 0) (.slice none 0 0) (.slice none 0 0)).alloc (Obj.cells #[Value.int IntKind.i64 k,Value.int IntKind.i64 i,Value.int IntKind.i64 v,Value.int IntKind.i64 n,Value.slice ua S.length uc,Value.slice xa D.length xc] 70))
   obtain ⟨e0,e1,e2,e3,e4,e5,hB⟩:=HEND.out;generalize (z3t w1 w.heap.size (.int .i64 0) (.int .i64 0) (.int .i64 0) (.int .i64 0) (.slice none 0 0) (.slice none 0 0)).alloc (Obj.cells #[Value.int IntKind.i64 k,Value.int IntKind.i64 i,Value.int IntKind.i64 v,Value.int IntKind.i64 n,Value.slice ua S.length uc,Value.slice xa D.length xc] 70)=w9 at *
   exact bodyPost_ret (v:=.tuple #[.agg #[.int .i64 0,.int .i64 0,.int .i64 0,.int .i64 0,.slice none 0 0,.slice none 0 0],.int .i64 1]) (by simp[results,results16,go_sem,e0,e1,e2,e3,e4,e5]) rfl
    ⟨none,none,0,0,0,0,0,0,by rw[HE1.out,HP1.out];rfl,by rw[HP1.out];exact q2o _,by rw[HP1.out];exact j3i _,hB⟩
theorem q5s:∀ (t:List Int) (x:Int),z4X x t=x * 2 ^ (8 * t.length)+z4X 0 t:=by
 intro t
 induction t with
 | nil=>intro x;simp[z4X]
 | cons c t ih =>
  intro x;have h1:z4X x (c :: t)=z4X (x * 256+c) t:=rfl;have h2:z4X 0 (c :: t)=z4X (0 * 256+c) t:=rfl;rw[h1,h2,ih (x * 256+c),ih (0 * 256+c),List.length_cons,q0s,Int.add_mul,Int.zero_mul,Int.zero_add,Int.mul_assoc,Int.mul_comm 256];omega
theorem z5o(a:List Int)(h:Bytes a):∀ acc:Int,be (z4X acc a) a.length=a:=by
 induction a with
 | nil=>intro _;rfl
 | cons c t ih =>
  intro acc;have ht:Bytes t:=fun x hx=>h x (List.mem_cons_of_mem _ hx);have hc:=h c (List.mem_cons_self ..);have h1:z4X acc (c :: t)=z4X (acc * 256+c) t:=rfl;have hb:=z8M t 0 0 ht (by omega) (by omega)
  rw[Nat.zero_add]at hb;rw[h1,List.length_cons,be,ih ht (acc * 256+c),q5s t (acc * 256+c)]
  congr 1
  rw[Int.mul_comm,Int.add_comm,Int.add_mul_ediv_left _ _ (by have:=j2i t.length;omega),Int.ediv_eq_zero_of_lt hb.1 hb.2]
  omega
theorem z3s{m:Nat}{st:List Int×Bool}(h:(tk m st).2.2=false):st.2=false/\m<=st.1.length:=by
 unfold tk at h
 split at h
 ·cases h
 ·exact ⟨h,by omega⟩
theorem z3R{m:Nat}{l:List Int}{x:Int}{l':List Int}(h:tk m (l,false)=(x,(l',false))):∃ a,a.length=m/\l=a ++ l'/\x=z4X 0 a:=by
 have hf:=z3s (m:=m) (st:=(l,false)) (by rw[h])
 rw[tk,if_neg (by have:=hf.2;dsimp only at this ⊢;omega)]at h
 simp only[Prod.mk.injEq]at h;obtain ⟨rfl,rfl,_⟩:=h;exact ⟨l.take m,by rw[List.length_take];have:=hf.2;dsimp only at this;omega,(List.take_append_drop m l).symm,rfl⟩
theorem q2H:∀ (m:Nat) {st:List Int×Bool},(tkP m st).2.2=false->st.2=false:=by
 intro m
 induction m with
 | zero=>intro st h;exact h
 | succ m ih=>intro st h;exact (z3s (z3s (ih h)).1).1
theorem q2l:∀ (m:Nat) {st:List Int×Bool},(tkD m st).2.2=false->st.2=false:=by
 intro m
 induction m with
 | zero=>intro st h;exact h
 | succ m ih=>intro st h;exact (z3s (ih h)).1
theorem j0n:∀ (m:Nat) {l l':List Int} {S:List (Int×Int)},Bytes l->tkP m (l,false)=(S,(l',false))->S.length=m/\l=S.flatMap z9E ++ l':=by
 intro m
 induction m with
 | zero=>intro l l' S _ h;simp only[tkP,Prod.mk.injEq]at h;obtain ⟨rfl,rfl,_⟩:=h;exact ⟨rfl,rfl⟩
 | succ m ih =>
  intro l l' S hb h
  rcases e1:tk 1 (l,false) with ⟨y,l1,f1⟩
  rcases e2:tk 7 (l1,f1) with ⟨z,l2,f2⟩
  rcases e3:tkP m (l2,f2) with ⟨T,l3,f3⟩
  rw[tkP,e1]at h;dsimp only at h;rw[e2]at h;dsimp only at h;rw[e3]at h;simp only[Prod.mk.injEq]at h;obtain ⟨rfl,rfl,rfl⟩:=h;have g2:=q2H m (st:=(l2,f2)) (by rw[e3])
  dsimp only at g2;subst g2;have g1:=(z3s (m:=7) (st:=(l1,f1)) (by rw[e2])).1
  dsimp only at g1;subst g1;obtain ⟨a,ha,rfl,rfl⟩:=z3R e1;obtain ⟨c,hc,rfl,rfl⟩:=z3R e2;have ba:Bytes a:=fun x hx=>hb x (by simp[hx])
  have bc:Bytes c:=fun x hx=>hb x (by simp[hx])
  have b2:Bytes l2:=fun x hx=>hb x (by simp[hx])
  obtain ⟨r1,r2⟩:=ih b2 e3;refine ⟨by simp[r1],?_⟩
  have q1:=z5o a ba 0;have q2:=z5o c bc 0;rw[ha]at q1;rw[hc]at q2;rw[List.flatMap_cons,z9E];dsimp only;rw[q1,q2,List.append_assoc,List.append_assoc,← r2]
theorem j1y:∀ (m:Nat) {l l':List Int} {D:List Int},Bytes l->tkD m (l,false)=(D,(l',false))->D.length=m/\l=D.flatMap (be · 1) ++ l':=by
 intro m
 induction m with
 | zero=>intro l l' S _ h;simp only[tkD,Prod.mk.injEq]at h;obtain ⟨rfl,rfl,_⟩:=h;exact ⟨rfl,rfl⟩
 | succ m ih =>
  intro l l' S hb h
  rcases e1:tk 1 (l,false) with ⟨y,l1,f1⟩
  rcases e3:tkD m (l1,f1) with ⟨T,l3,f3⟩
  rw[tkD,e1]at h;dsimp only at h;rw[e3]at h;simp only[Prod.mk.injEq]at h;obtain ⟨rfl,rfl,rfl⟩:=h;have g1:=q2l m (st:=(l1,f1)) (by rw[e3])
  dsimp only at g1;subst g1;obtain ⟨a,ha,rfl,rfl⟩:=z3R e1;have ba:Bytes a:=fun x hx=>hb x (by simp[hx])
  have b2:Bytes l1:=fun x hx=>hb x (by simp[hx])
  obtain ⟨r1,r2⟩:=ih b2 e3;refine ⟨by simp[r1],?_⟩
  have q1:=z5o a ba 0;rw[ha]at q1;rw[List.flatMap_cons,q1,List.append_assoc,← r2]
theorem q5d{l r:List Int}{k i v n:Int}{S:List (Int×Int)}{D:List Int}(hb:Bytes l)(h:parse l=((k,i,v,n,S,D),(r,false))):l=enc k i v n S D ++ r:=by
 have hbd:=z6q l hb
 rcases e1:p1 l with ⟨x1,l1,f1⟩
 rcases e2:p2 l with ⟨x2,l2,f2⟩
 rcases e3:p3 l with ⟨x3,l3,f3⟩
 rcases e4:p4 l with ⟨x4,l4,f4⟩
 rcases e5:p5 l with ⟨c,l5,f5⟩
 rcases e6:p6 l with ⟨S',l6,f6⟩
 rcases e7:p7 l with ⟨d,l7,f7⟩
 rcases e8:p8 l with ⟨D',l8,f8⟩
 rw[parse,e1,e2,e3,e4,e6,e8]at h;simp only[Prod.mk.injEq]at h;obtain ⟨⟨rfl,rfl,rfl,rfl,rfl,rfl⟩,rfl,rfl⟩:=h;rw[e5,e7]at hbd;dsimp only at hbd;have n1:=e1;rw[p1]at n1;have n2:=e2;rw[p2,e1]at n2;dsimp only at n2;have n3:=e3;rw[p3,e2]at n3;dsimp only at n3;have n4:=e4;rw[p4,e3]at n4;dsimp only at n4;have n5:=e5;rw[p5,e4]at n5;dsimp only at n5;have n6:=e6;rw[p6,e5]at n6;dsimp only at n6;have n7:=e7;rw[p7,e6]at n7;dsimp only at n7;have n8:=e8;rw[p8,e7]at n8;dsimp only at n8;clear e1 e2 e3 e4 e5 e6 e7 e8;have g7:=q2l d.toNat (st:=(l7,f7)) (by rw[n8])
 dsimp only at g7;subst g7;have g6:=(z3s (m:=1) (st:=(l6,f6)) (by rw[n7])).1
 dsimp only at g6;subst g6;have g5:=q2H c.toNat (st:=(l5,f5)) (by rw[n6])
 dsimp only at g5;subst g5;have g4:=(z3s (m:=1) (st:=(l4,f4)) (by rw[n5])).1
 dsimp only at g4;subst g4;have g3:=(z3s (m:=7) (st:=(l3,f3)) (by rw[n4])).1
 dsimp only at g3;subst g3;have g2:=(z3s (m:=1) (st:=(l2,f2)) (by rw[n3])).1
 dsimp only at g2;subst g2;have g1:=(z3s (m:=6) (st:=(l1,f1)) (by rw[n2])).1
 dsimp only at g1;subst g1;obtain ⟨a1,h1,rfl,rfl⟩:=z3R n1;obtain ⟨a2,h2,rfl,rfl⟩:=z3R n2;obtain ⟨a3,h3,rfl,rfl⟩:=z3R n3;obtain ⟨a4,h4,rfl,rfl⟩:=z3R n4;obtain ⟨a5,h5,rfl,rfl⟩:=z3R n5;have b5:Bytes l5:=fun x hx=>hb x (by simp[hx])
 obtain ⟨r1,r2⟩:=j0n _ b5 n6;obtain ⟨a7,h7,rfl,rfl⟩:=z3R n7;have b7:Bytes l7:=fun x hx=>hb x (by rw[r2];simp[hx])
 obtain ⟨r3,r4⟩:=j1y _ b7 n8;have q1:=z5o a1 (fun x hx=>hb x (by simp[hx])) 0
 have q2:=z5o a2 (fun x hx=>hb x (by simp[hx])) 0
 have q3:=z5o a3 (fun x hx=>hb x (by simp[hx])) 0
 have q4:=z5o a4 (fun x hx=>hb x (by simp[hx])) 0
 have q5:=z5o a5 (fun x hx=>hb x (by simp[hx])) 0
 have q7:=z5o a7 (fun x hx=>hb x (by rw[r2];simp[hx])) 0
 rw[h1]at q1;rw[h2]at q2;rw[h3]at q3;rw[h4]at q4;rw[h5]at q5;rw[h7]at q7;have w5:(S'.length:Int)=z4X 0 a5:=by omega
 have w7:(D'.length:Int)=z4X 0 a7:=by omega
 unfold enc q4v;rw[q1,q2,q3,q4,w5,q5,w7,q7,r2,r4]
 simp
theorem q0Q{l:List Int}(hb:Bytes l)(h:z7G l=0):z0q (z2o l).1 (z2o l).2.1 (z2o l).2.2.1 (z2o l).2.2.2.1 (z2o l).2.2.2.2.1 (z2o l).2.2.2.2.2=0/\enc (z2o l).1 (z2o l).2.1 (z2o l).2.2.1 (z2o l).2.2.2.1 (z2o l).2.2.2.2.1 (z2o l).2.2.2.2.2=l:=by
 have hP:z2o l=(parse l).1:=by rw[z2o,if_pos h]
 rw[hP];unfold z7G at h
 split at h
 ·rename_i h2
  rcases e:parse l with ⟨⟨k',i',v',n',S',D'⟩,st⟩
  rw[e]at h h2;dsimp only at h2;subst h2;have h3:=q5d hb e;rw[List.append_nil]at h3;exact ⟨h,h3.symm⟩
 ·cases h
end Cd
namespace Pv
open Go.RowKit
def isT(n:Int):Bool:=decide (0<=n) && decide (n<=1099511627776)
def z3H(l:List Int):Pkt:=⟨(Cd.z2o l).1,(Cd.z2o l).2.1,(Cd.z2o l).2.2.1,(Cd.z2o l).2.2.2.1,(Cd.z2o l).2.2.2.2.1,(Cd.z2o l).2.2.2.2.2⟩
theorem apR{P:Nat->Prop}(t e:TypeId)(i0:TypeInfo)(z:Value)(hu:prog.underlying t=some (.slice e))(hi:prog.info? e=some i0)(hz0:i0.zero=some z)(w:World)(A:Option Addr)(n y bt:Nat)(cs news:List Value)(hr:Rep P w (.slice A n n) i0.size bt cs)(hb:n * i0.bytes<=140737488351232)(hb1:0<i0.bytes)(hb2:i0.bytes<=1000)(hl:news.length=i0.size)(hy:∀ j v,news[j]?=some v->w.cell? ⟨y,j,none⟩=some v) :
  ∃ C w',(Builtin.append_ #[t,t] t #[.slice A n n,.slice (some ⟨y,0,none⟩) 1 1]).run prog w=.ok (.slice (some ⟨w.heap.size,0,none⟩) (n+1) C) w'/\n+1<=C/\(∀ j u,(cs ++ news)[j]?=some u->w'.cell? ⟨w.heap.size,j,none⟩=some u)/\Below w.heap.size w w'/\w.heap.size<w'.heap.size:=by
 have hnews:∀ j v,news[j]?=some v->w.cell? ((⟨y,0,none⟩:Addr).add j)=some v:=fun j v hv=>by rw[Addr.add_lit,Nat.zero_add];exact hy j v hv
 have hn63:n<=140737488351232:=by
  have:=Nat.le_mul_of_pos_right n hb1;omega
 obtain ⟨A',n',C',h1,h2,h3,h4,h5⟩:=hr;cases h1
 have new:∀ (arr tail:Array Value),arr.toList=cs ++ news->∀ j u,(cs ++ news)[j]?=some u->(w.drew.alloc (.cells (arr ++ tail) e)).cell? ⟨w.heap.size,j,none⟩=some u:=fun arr tail ha j u hj=>by
  have hj':arr[j]?=some u:=by rw[← ha]at hj;simpa using hj
  have hlt:=(Array.getElem?_eq_some_iff.1 hj').1;have h:(w.drew.alloc (.cells (arr ++ tail) e)).heap[w.heap.size]?=some (.cells (arr ++ tail) e):=heap_alloc_new w.drew _;simp only[World.cell?,h];rw[Array.getElem?_append_left hlt]
  simp[hj']
 cases A with
 | none =>
  have h0:n=0:=by
   rcases Nat.eq_zero_or_pos n with h | h
   ·exact h
   ·obtain ⟨b,off,e,_⟩:=h5 h;cases e
  subst h0;have hc0:cs=[]:=List.length_eq_zero_iff.1 (by rw[h2,Nat.zero_mul])
  subst hc0;refine ⟨_,_,run_append_nil (P:=prog) w t t e i0 z hu hi hz0 ⟨y,0,none⟩ 1 1 news (by rw[hl,Nat.one_mul]) hnews (by omega) (by omega) (by omega),grownCap_ge _ _ _ _,?_,(Below.refl _ w).drew.alloc (Nat.le_refl _) _,by simp⟩
  exact new _ _ (by simp)
 | some a =>
  have hold:∀ j v,cs[j]?=some v->w.cell? (a.add j)=some v:=fun j v hv=>by
   have h0:0<n:=by
    rcases Nat.eq_zero_or_pos n with h | h
    ·subst h;have:=(List.getElem?_eq_some_iff.1 hv).1;rw[h2,Nat.zero_mul]at this;omega
    ·exact h
   obtain ⟨b,off,e,_,_,hc⟩:=h5 h0;cases e;rw[Addr.add_lit];exact hc j v hv
  have hcap:Builtin.nextslicecap (n+1) n * i0.bytes<=281474976710656:=by
   rcases Nat.eq_zero_or_pos n with rfl | hp
   ·rw[nextslicecap_zero (by omega)];omega
   ·have:=Nat.mul_le_mul_right i0.bytes (nextslicecap_succ hp);rw[Nat.mul_assoc]at this;omega
  refine ⟨_,_,run_append_grow (P:=prog) w t t e i0 z hu hi hz0 a n n cs h2 hold ⟨y,0,none⟩ 1 1 news (by rw[hl,Nat.one_mul]) hnews (by omega) (by omega) hcap,grownCap_ge _ _ _ _,?_,(Below.refl _ w).drew.alloc (Nat.le_refl _) _,by simp⟩
  exact new _ _ (by simp)
theorem Rep.clip{P:Nat->Prop}{w:World}{A:Option Addr}{n C sz bts:Nat}{cs:List Value}(h:Rep P w (.slice A n C) sz bts cs):Rep P w (.slice A n n) sz bts cs:=by
 obtain ⟨A',n',C',h1,h2,h3,h4,h5⟩:=h;cases h1;refine ⟨A,n,n,rfl,h2,h3,⟨fun e=>?_,Nat.le_refl _⟩,h5⟩;have:=h4.1 e;omega
theorem q0A{P:Nat->Prop}{w:World}{A:Option Addr}{C sz bts:Nat}(h:A=none->C=0):Rep P w (.slice A 0 C) sz bts []:=⟨A,0,C,rfl,by simp,by simp,⟨h,Nat.zero_le _⟩,fun h=>absurd h (by omega)⟩
theorem j1P{k i v n:Int}{S:List (Int×Int)}{D:List Int}(h:Cd.z0q k i v n S D=0):(1<=k/\k<=4)/\(1<=i/\i<=1099511627776)/\(k=3∨k=4->0<=v/\v<6)/\(k≠1->S=[]/\D=[]):=by
 unfold Cd.z0q at h
 by_cases h1:k<1∨4<k
 ·rw[if_pos h1]at h;exact absurd h (by decide)
 rw[if_neg h1]at h
 by_cases h2:i<1∨1099511627776<i
 ·rw[if_pos h2]at h;exact absurd h (by decide)
 rw[if_neg h2]at h
 by_cases h3:Cd.z6u k=true/\(Cd.isV v=false∨n<1∨1125899906842624<n)
 ·rw[if_pos h3]at h;exact absurd h (by decide)
 rw[if_neg h3]at h
 by_cases h4:Cd.z8v k v n S.length D.length=true
 ·rw[if_pos h4]at h;exact absurd h (by decide)
 refine ⟨by omega,by omega,fun hk=>?_,fun hk=>?_⟩
 ·have ha:Cd.z6u k=true:=by
   unfold Cd.z6u
   rcases hk with rfl | rfl <;> rfl
  by_cases hv:Cd.isV v=false
  ·exact absurd ⟨ha,.inl hv⟩ h3
  ·unfold Cd.isV at hv;simpa using hv
 ·have h5:(k != 1 && ((S.length:Int) != 0 || (D.length:Int) != 0))=false:=by
   have:Cd.z8v k v n S.length D.length=false:=by simpa using h4
   unfold Cd.z8v at this;simp only[Bool.or_eq_false_iff]at this
   simpa using this.2
  have hk':(k != 1)=true:=by simpa using hk
  rw[hk',Bool.true_and,Bool.or_eq_false_iff]at h5;have e1:S.length=0:=by have:=h5.1;simp at this;simp[this]
  have e2:D.length=0:=by have:=h5.2;simp at this;simp[this]
  exact ⟨List.length_eq_zero_iff.1 e1,List.length_eq_zero_iff.1 e2⟩
end Pv
section
open Go.RowKit
def wtL(x:Wt):List Value:=[.int .i64 x.num,.int .i64 x.d,.int .i64 x.v,.int .i64 x.amt,.int .i64 x.hei,.int .i64 x.due,.int .i64 x.h0,.int .i64 x.h1]
theorem j0V(ao:Option Addr)(n c:Nat)(hn:n<=c)(h0:ao=none->n=0)(hc:(n:Int)<4611686018427387904)(w:World):Calls prog 111 #[.slice ao n c] w fun e w'=>e=.returned (.slice ao n n)/\w=w':=by
 have h1:(n:Int)<=(c:Int):=by omega
 have h2:(0:Int)<=(n:Int):=by omega
 go_enter func111,ntmps111
 cases ao
 ·obtain rfl:=h0 rfl;go_wp2;go_ret;exact ⟨rfl,rfl⟩
 ·clear h0;go_wp2;go_ret;exact ⟨rfl,rfl⟩
theorem z1S(x:Wt):(wtL x).length=8:=rfl
def wsL(W:List Wt):List Value:=W.flatMap wtL
theorem z1x:∀ W:List Wt,(wsL W).length=W.length * 8
 | []=>rfl
 | x :: W=>by show (wtL x ++ wsL W).length=_;rw[List.length_append,z1x W,z1S,List.length_cons];omega
theorem z4p:∀ (W:List Wt) (i:Nat) (x:Wt) (j:Nat),W[i]?=some x->j<8->(wsL W)[i * 8+j]?=(wtL x)[j]?
 | [],i,x,j,h,_=>by simp at h
 | y :: W,0,x,j,h,hj=>by
  simp at h
  subst h
  show (wtL y ++ wsL W)[0 * 8+j]?=_
  rw[List.getElem?_append_left (by rw[z1S];omega),Nat.zero_mul,Nat.zero_add]
 | y :: W,i+1,x,j,h,hj=>by
  show (wtL y ++ wsL W)[(i+1) * 8+j]?=_
  rw[List.getElem?_append_right (by rw[z1S];omega),z1S,show (i+1) * 8+j - 8=i * 8+j by omega]
  exact z4p W i x j (by simpa using h) hj
theorem q3w{w:World}{ao:Option Addr}{b o:Nat}{W:List Wt}(h:z2n w ao b o W):∀ j v,(wsL W)[j]?=some v->w.cell? ⟨b,o+j,none⟩=some v:=by
 intro j v hj;have hl:=(List.getElem?_eq_some_iff.1 hj).1;rw[z1x]at hl;have hi:j / 8<W.length:=by omega
 have hx:W[j / 8]?=some (W[j / 8]'hi):=List.getElem?_eq_getElem hi;have e:=z4p W (j / 8) _ (j % 8) hx (by omega)
 rw[show j / 8 * 8+j % 8=j by omega,hj]at e
 obtain ⟨c0,c1,c2,c3,c4,c5,c6,c7⟩:=h.cell _ _ hx;have hd:j=j / 8 * 8+j % 8:=by omega
 generalize W[j / 8]'hi=x at *;generalize hq:j / 8=q at *;have hr:j % 8<8:=by omega
 generalize j % 8=r at *;subst hd
 rcases (show r=0∨r=1∨r=2∨r=3∨r=4∨r=5∨r=6∨r=7 by omega) with rfl | rfl | rfl | rfl | rfl | rfl | rfl | rfl <;> simp[wtL]at e <;> subst e <;> rw[← Nat.add_assoc] <;> assumption
theorem q1P{w:World}{b:Nat}{W:List Wt}(hl:W.length * 64<=140737488351232)(h:∀ j v,(wsL W)[j]?=some v->w.cell? ⟨b,j,none⟩=some v):z2n w (some ⟨b,0,none⟩) b 0 W:=by
 refine ⟨fun _=>rfl,hl,fun i x hx=>?_⟩
 have k:∀ j,j<8->∀ v,(wtL x)[j]?=some v->w.cell? ⟨b,0+i * 8+j,none⟩=some v:=fun j hj v hv=>by
  rw[Nat.zero_add];exact h _ _ ((z4p W i x j hx hj).trans hv)
 exact ⟨k 0 (by omega) _ rfl,k 1 (by omega) _ rfl,k 2 (by omega) _ rfl,k 3 (by omega) _ rfl,k 4 (by omega) _ rfl,k 5 (by omega) _ rfl,k 6 (by omega) _ rfl,k 7 (by omega) _ rfl⟩
theorem j2S(w:World)(L:List Wt)(arr tail:Array Value)(ha:arr.toList=wsL L)(e:TypeId)(hl:L.length * 64<=140737488351232):z2n (w.drew.alloc (.cells (arr ++ tail) e)) (some ⟨w.heap.size,0,none⟩) w.heap.size 0 L:=by
 refine q1P hl fun j v hj=>?_;have h:(w.drew.alloc (.cells (arr ++ tail) e)).heap[w.heap.size]?=some (.cells (arr ++ tail) e):=heap_alloc_new w.drew _;have hj':arr[j]?=some v:=by rw[← ha]at hj;simpa using hj
 have hlt:=(Array.getElem?_eq_some_iff.1 hj').1;simp only[World.cell?,h];rw[Array.getElem?_append_left hlt]
 simp[hj']
theorem ap1(w:World)(ao:Option Addr)(sb so y:Nat)(W:List Wt)(x:Wt)(hW:z2n w ao sb so W)(h60:W.length<=60)(hy:∀ j v,(wtL x)[j]?=some v->w.cell? ⟨y,j,none⟩=some v) :
  ∃ C w',(Builtin.append_ #[41,41] 41 #[.slice ao W.length W.length,.slice (some ⟨y,0,none⟩) 1 1]).run prog w=.ok (.slice (some ⟨w.heap.size,0,none⟩) (W.length+1) C) w'/\W.length+1<=C /\
   z2n w' (some ⟨w.heap.size,0,none⟩) w.heap.size 0 (W ++ [x])/\Below w.heap.size w w':=by
 obtain ⟨i0,hi,hz0,hz1,hz2⟩:=info_parts q9C;have hnews:∀ j v,(wtL x)[j]?=some v->w.cell? ((⟨y,0,none⟩:Addr).add j)=some v:=fun j v hv=>by rw[Addr.add_lit,Nat.zero_add];exact hy j v hv
 have hL:wsL (W ++ [x])=wsL W ++ wtL x:=by unfold wsL;rw[List.flatMap_append];simp
 have hnx:∀ n:Nat,n<=60->Builtin.nextslicecap (n+1) n * 64<=281474976710656:=fun n hn=>by
  rcases Nat.eq_zero_or_pos n with rfl | hp
  ·rw[nextslicecap_zero (by omega)];omega
  ·have:=nextslicecap_succ hp;omega
 cases ao with
 | none =>
  have h0:W.length=0:=by
   rcases Nat.eq_zero_or_pos W.length with h0 | h0
   ·exact h0
   ·have:=hW.adr h0;cases this
  obtain rfl:W=[]:=List.length_eq_zero_iff.1 h0;refine ⟨_,_,run_append_nil (P:=prog) w 41 41 82 i0 _ underlying41 hi hz0 ⟨y,0,none⟩ 1 1 (wtL x) (by rw[hz1];rfl) hnews (by omega) (by omega) (by rw[hz2];omega),grownCap_ge _ _ _ _,?_,(Below.refl _ w).drew.alloc (Nat.le_refl _) _⟩
  exact j2S w [x] _ _ (by simp[wsL]) _ (by simp)
 | some a =>
  have hold:∀ j v,(wsL W)[j]?=some v->w.cell? (a.add j)=some v:=fun j v hv=>by
   have h0:0<W.length:=by
    have:=(List.getElem?_eq_some_iff.1 hv).1;rw[z1x]at this;omega
   have:=hW.adr h0;cases this;rw[Addr.add_lit];exact q3w hW j v hv
  refine ⟨_,_,run_append_grow (P:=prog) w 41 41 82 i0 _ underlying41 hi hz0 a W.length W.length (wsL W) (by rw[z1x,hz1]) hold ⟨y,0,none⟩ 1 1 (wtL x) (by rw[hz1];rfl) hnews (by omega) (by omega) (by rw[hz2];exact hnx _ h60),grownCap_ge _ _ _ _,?_,(Below.refl _ w).drew.alloc (Nat.le_refl _) _⟩
  exact j2S w (W ++ [x]) _ _ (by simp[hL]) _ (by simp;omega)
end
end Go.Proofs.YtmopekkhmhhcaaaGreat
