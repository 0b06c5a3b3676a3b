/- Parts of the proof. -/
import Derived.Test.YtddlhnoedldidaaGreatML
import Derived.Test.YtddlhnoedldidaaGreatMK30
import Derived.Test.YtddlhnoedldidaaGreatMK39
import Derived.OpenShut
import Derived.Deep.Slices
import Derived.SizedLaws
set_option maxRecDepth 100000
set_option maxHeartbeats 16000000
namespace Go.Proofs.YtddlhnoedldidaaGreat
open Go.Proofs.Tryz
open Value renaming int->J,slice->J1,pointer->J2,bool->J3,agg->J4
open IntKind renaming i64->I
open Obj renaming cells->J5
namespace Pv
open Go.RowKit
structure Alt(g:Nat)(w w':World):Prop where
 os:w'.os=w.os
 tape:w'.tape=w.tape
 output:w'.output=w.output
 size:w.heap.size<=w'.heap.size
 block:∀ k,k<w.heap.size->k≠g->w'.heap[k]?=w.heap[k]?
theorem Alt.refl(g:Nat)(w:World):Alt g w w:=⟨rfl,rfl,rfl,Nat.le_refl _,fun _ _ _=>rfl⟩
theorem Alt.trans{g:Nat}{w w1 a:World}(h:Alt g w w1)(k:Alt g w1 a):Alt g w a:=⟨k.os.trans h.os,k.tape.trans h.tape,k.output.trans h.output,Nat.le_trans h.size k.size,fun i b c=>(k.block i (Nat.lt_of_lt_of_le b h.size) c).trans (h.block i b c)⟩
theorem Alt.of{g:Nat}{w w':World}(h:Bl w w'):Alt g w w':=⟨h.os,h.tape,h.output,h.size,fun k a _=>h.block k a⟩
theorem Alt.below{g B:Nat}{w w':World}(h:Alt g w w')(a:B<=g)(b:B<=w.heap.size):Below B w w':=⟨h.os,h.tape,h.output,h.size,fun k c=>h.block k (by omega) (by omega)⟩
theorem Alt.set{g:Nat}{w w':World}(h:Alt g w w')(o:Nat)(v:Value):Alt g w (w'.setCell ⟨g,o,none⟩ v):=
 ⟨h.os,h.tape,h.output,(by simp[World.setCell];exact h.size),fun k b a=>(Below.heap_setCell _ _ _ _ a).trans (h.block k b a)⟩
theorem Alt.sets{g:Nat}:∀ (a:List Value) {w w':World} (_:Alt g w w') (o:Nat),Alt g w (w'.setCells g o a)
 | [],_,_,h,_=>h
 | _ :: r,_,_,h,o=>Alt.sets r (h.set o _) (o+1)
theorem Alt.cat{g:Nat}{w w':World}(h:Alt g w w'){b:Nat}(hb:b≠g){t:TypeId}{cs:Array Value}(c:CAt t w b cs):CAt t w' b cs:=(h.block b c.lt hb).trans c
theorem Alt.rep{g:Nat}{w w':World}(h:Alt g w w'){P:Nat->Prop}(c:¬ P g){v:Value}{sz bts:Nat}{cs:List Value}(hp:Rep P w v sz bts cs):Rep P w' v sz bts cs:=hp.keep fun b hb a=>h.block b a (fun e=>c (e ▸ hb))
def New(P:Nat->Prop)(w:World)(k b:Nat):Prop:=(P b/\b<w.heap.size)∨w.heap.size+k<=b
theorem z3F{P:Nat->Prop}{w:World}{k j:Nat}(h:j<k):¬ New P w k (w.heap.size+j):=fun a=>by
 rcases a with⟨_,h1⟩ | h1 <;> omega
end Pv
namespace Pv
open Go.RowKit
def z0C(P:Nat->Prop)(w:World)(v:Value)(sz bts:Nat)(cs:List Value):Prop:=∃ (A:Option Addr) (n C C':Nat),v=J1 A n C/\(A=none->C=0)/\Rep P w (J1 A n C') sz bts cs
section
variable {P P':Nat->Prop} {w w':World} {v:Value} {sz bts:Nat} {cs:List Value}
theorem Rep.c(h:Rep P w v sz bts cs):z0C P w v sz bts cs:=by
 obtain⟨A,n,C,rfl,h2⟩:=id h;exact⟨A,n,C,C,rfl,h2.2.2.1.1,h⟩
theorem z0C.nil(P:Nat->Prop)(w:World)(sz bts:Nat):z0C P w (J1 none 0 0) sz bts []:=(Rep.nil P w sz bts).c
theorem z0C.mono(h:z0C P w v sz bts cs)(hp:∀ b,b<w.heap.size->P b->P' b):z0C P' w v sz bts cs:=by
 obtain⟨A,n,C,C',h1,h2,h3⟩:=h;exact⟨A,n,C,C',h1,h2,h3.mono hp⟩
theorem z0C.keep(h:z0C P w v sz bts cs)(a:∀ b,P b->b<w.heap.size->w'.heap[b]?=w.heap[b]?):z0C P w' v sz bts cs:=by
 obtain⟨A,n,C,C',h1,h2,h3⟩:=h;exact⟨A,n,C,C',h1,h2,h3.keep a⟩
theorem z0C.over(h:z0C P w v sz bts cs)(hb:Bl w w'):z0C P w' v sz bts cs:=h.keep fun b _ a=>hb.block b a
theorem z0C.one(h:z0C P w v sz bts cs):v.oneCell'=true:=by
 obtain⟨A,n,C,C',rfl,_⟩:=h;rfl
theorem z0C.line{x:Ln.Line}{v1 v2:Value}(h1:z0C P w v1 1 16 (txC x.S))(h2:z0C P w v2 1 8 (inC x.D)):∃ a b c d sb so db dO,v1=J1 a x.S.length b/\v2=J1 c x.D.length d/\Ln.LAt w x a c b d sb so db dO/\(0<x.S.length->P sb)/\(0<x.D.length->P db):=by
 obtain⟨A,n,C,C',rfl,n1,r1⟩:=h1;obtain⟨B,m,D,h,rfl,e,r2⟩:=h2;obtain⟨a,b,c,d,sb,so,db,dO,f,g,L,p1,p2⟩:=Rep.line r1 r2;cases f;cases g;exact⟨_,_,_,_,sb,so,db,dO,rfl,rfl,⟨L.hls,L.hld,L.hsa,L.hda,n1,e,L.PS,L.PD⟩,p1,p2⟩
theorem j3a{x:Ln.Line}{sa da:Option Addr}{cs cd sb so db dO:Nat}(L:Ln.LAt w x sa da cs cd sb so db dO)(hp:0<x.S.length->P sb):z0C P w (J1 sa x.S.length cs) 1 16 (txC x.S):=by
 refine⟨sa,x.S.length,cs,x.S.length,rfl,L.ncs,sa,x.S.length,x.S.length,rfl,z0V _,L.hls,⟨fun e=>?_,Nat.le_refl _⟩,fun h0=>⟨sb,so,L.hsa h0,hp h0,L.ltS h0,fun j u hu=>?_⟩⟩
 ·rcases Nat.eq_zero_or_pos x.S.length with h | h
  ·exact h
  ·rw[L.hsa h]at e;cases e
 ·have a:j<x.S.length:=by have:=(List.getElem?_eq_some_iff.1 hu).1;rw[z0V]at this;omega
  rw[L.PS j a,<- hu,z7z _ j a]
theorem j4c{x:Ln.Line}{sa da:Option Addr}{cs cd sb so db dO:Nat}(L:Ln.LAt w x sa da cs cd sb so db dO)(hp:0<x.D.length->P db):z0C P w (J1 da x.D.length cd) 1 8 (inC x.D):=by
 refine⟨da,x.D.length,cd,x.D.length,rfl,L.ncd,da,x.D.length,x.D.length,rfl,z0h _,L.hld,⟨fun e=>?_,Nat.le_refl _⟩,fun h0=>⟨db,dO,L.hda h0,hp h0,L.ltD h0,fun j u hu=>?_⟩⟩
 ·rcases Nat.eq_zero_or_pos x.D.length with h | h
  ·exact h
  ·rw[L.hda h]at e;cases e
 ·have a:j<x.D.length:=by have:=(List.getElem?_eq_some_iff.1 hu).1;rw[z0h]at this;omega
  rw[L.PD j a,<- hu,z3J _ j a]
end
def j7r(P:Nat->Prop)(w:World)(x:Ln.Line)(a:Int)(e:Ending)(w':World):Prop:=∃ u1 u2,e=.returned (.tuple #[J4 #[u1,u2,J I x.g,J3 x.cl],J I a])/\z0C (New P w 0) w' u1 1 16 (txC x.S)/\z0C (New P w 0) w' u2 1 8 (inC x.D)/\Bl w w'
theorem j3f{P:Nat->Prop}{w w':World}{x y:Ln.Line}{a:Int}{e:Ending}{c d:Option Addr}{f g sb so db dO:Nat}(L:Ln.LAt w x c d f g sb so db dO)(p1:0<x.S.length->P sb)(p2:0<x.D.length->P db)(h:Ln.Ans sb db x w (y,a) e w'):j7r P w y a e w':=by
 obtain⟨v,rfl,⟨sa,da,cs,cd,i,j,k,l,rfl,b,m,n⟩,hb⟩:=h;refine⟨_,_,rfl,j3a b fun h0=>?_,j4c b fun h0=>?_,hb⟩
 ·rcases (m h0).2 with⟨rfl,e⟩ | h
  ·rw[e]at h0;exact .inl ⟨p1 h0,L.ltS h0⟩
  ·exact .inr h
 ·rcases (n h0).2 with⟨rfl,e⟩ | h
  ·rw[e]at h0;exact .inl ⟨p2 h0,L.ltD h0⟩
  ·exact .inr h
theorem q6q(x:Ln.Line)(s:ByteArray)(due:Int)(v1 v2:Value)(P:Nat->Prop)(w:World)(h1:z0C P w v1 1 16 (txC x.S))(h2:z0C P w v2 1 8 (inC x.D)):Calls prog 118 #[J4 #[v1,v2,J I x.g,J3 x.cl],.string s,J I due] w (j7r P w (Ln.z5K x s due) (Ln.z6v x due)):=by
 obtain⟨a,b,c,d,sb,so,db,dO,rfl,rfl,L,p1,p2⟩:=z0C.line h1 h2;exact (Ln.j2X x a c b d sb so db dO s due w L).mono fun e w' h=>j3f L p1 p2 h
theorem q8Y(x:Ln.Line)(v1 v2:Value)(P:Nat->Prop)(w:World)(h1:z0C P w v1 1 16 (txC x.S))(h2:z0C P w v2 1 8 (inC x.D)):Calls prog 140 #[J4 #[v1,v2,J I x.g,J3 x.cl]] w fun e w'=>e=.returned (J3 (Ln.z0Z x))/\Bl w w':=by
 obtain⟨a,b,c,d,sb,so,db,dO,rfl,rfl,L,-,-⟩:=z0C.line h1 h2;exact Ln.z0o x a c b d sb so db dO w L
end Pv
namespace Wd
open Go.ChangeShapes Go.WideShapes Go.ChangeAt Go.RowKit Go.Deep
section
variable {H:Type} {enc:TypeId×Value->H} {W:World}
structure Dd where
 k:Int
 c:Int
 d:Int
 v:Int
 n:Int
 b:Bool
 f:Bool
def ddC(x:Dd):Array Value:=#[J I x.k,J I x.c,J I x.d,J I x.v,J I x.n,J3 x.b,J3 x.f]
end
end Wd
namespace Cd
open Go.RowKit
def bs(s:ByteArray):List Int:=s.data.toList.map fun u=>(u.toNat:Int)
theorem z2o(s:ByteArray):(bs s).length=s.size:=by simp[bs]
theorem z9P(s:ByteArray):∀ c∈bs s,0<=c/\c<256:=by
 intro c hc;obtain⟨u,_,rfl⟩:=List.mem_map.1 hc;have:=u.toNat_lt;omega
theorem j6z(s:ByteArray)(j:Nat)(h:j<s.size):(bs s).getD j 0=(s[j].toNat:Int):=by
 have a:j<s.data.size:=h;rw[bs,List.getD,List.getElem?_map,Array.getElem?_toList,Array.getElem?_eq_getElem a];rfl
theorem z9e(s:ByteArray)(m:Nat):bs (s.extract m s.size)=(bs s).drop m:=by
 unfold bs;rw[ByteArray.data_extract,Array.toList_extract,List.extract_eq_take_drop,<- List.map_drop]
 congr 1
 rw[List.take_of_length_le]
 simp
def TAt(w:World)(b:Nat)(r:ByteArray)(sh:Bool):Prop:=w.heap[b]?=some (J5 #[.string r,J3 sh] 106)
theorem TAt.cells{w:World}{b:Nat}{r:ByteArray}{sh:Bool}(h:TAt w b r sh):w.cell? ⟨b,0,none⟩=some (.string r)/\w.cell? ⟨b,1,none⟩=some (J3 sh)/\w.frozen? ⟨b,0,none⟩=false/\w.frozen? ⟨b,1,none⟩=false:=by
 unfold TAt at h
 simp[World.cell?,World.frozen?,h]
theorem TAt.set0{w:World}{b:Nat}{r:ByteArray}{sh:Bool}(h:TAt w b r sh)(a:ByteArray):TAt (w.setCell ⟨b,0,none⟩ (.string a)) b a sh:=by
 unfold TAt at *
 simp[World.setCell,Array.getElem?_modify,h]
theorem TAt.set1{w:World}{b:Nat}{r:ByteArray}{sh:Bool}(h:TAt w b r sh)(a:Bool):TAt (w.setCell ⟨b,1,none⟩ (J3 a)) b r a:=by
 unfold TAt at *
 simp[World.setCell,Array.getElem?_modify,h]
theorem z3H(w:World)(b o:Nat)(v:Value):w.grownBy (w.setCell ⟨b,o,none⟩ v) (some b):=
 ⟨rfl,rfl,rfl,by simp[World.setCell],fun k _ a=>Below.heap_setCell _ _ _ _ (fun e=>a (by rw[e]))⟩
theorem z4w{w w1 b:World}{r:Option Nat}(h:w.grownBy w1 r)(k:w1.grownBy b r):w.grownBy b r:=
 ⟨k.os.trans h.os,k.tape.trans h.tape,k.output.trans h.output,Nat.le_trans h.size k.size,fun i c a=>(k.block i (Nat.lt_of_lt_of_le c h.size) a).trans (h.block i c a)⟩
def tk(m:Nat)(st:List Int×Bool):Int×(List Int×Bool):=if st.1.length<m then (0,([],true)) else (z5h 0 (st.1.take m),(st.1.drop m,st.2))
def TS(w:World)(b:Nat)(st:List Int×Bool):Prop:=∃ r,TAt w b r st.2/\bs r=st.1/\r.size<=maxLen
theorem j4x{j:Nat}(h:j<=6):(2:Int) ^ (8 * j)<=281474976710656:=by
 match j,h with
 | 0,_=>decide
 | 1,_=>decide
 | 2,_=>decide
 | 3,_=>decide
 | 4,_=>decide
 | 5,_=>decide
 | 6,_=>decide
theorem size_ext(r:ByteArray)(j:Nat):(r.extract j r.size).size<=r.size:=by
 have h:=z9e r j;have h2:=congrArg List.length h;rw[z2o,List.length_drop,z2o]at h2;omega
theorem z8F:∀ (l:List Int) (a:Int) (B:Nat),(∀ c∈l,0<=c/\c<256)->0<=a->a<2 ^ (8 * B)->0<=z5h a l/\z5h a l<2 ^ (8 * (B+l.length)):=by
 intro l
 induction l with
 | nil=>intro a B _ h0 h1;exact⟨h0,by simpa [z5h] using h1⟩
 | cons c t ih =>
  intro a B hc h0 h1;have b:=hc c (List.mem_cons_self ..);have h2:a * 256+c<2 ^ (8 * (B+1)):=by rw[q0Y];omega
  have:=ih (a * 256+c) (B+1) (fun x d=>hc x (List.mem_cons_of_mem _ d)) (by omega) h2
  rw[show B+1+t.length=B+(c :: t).length by simp;omega]at this
  exact this
theorem q6N(l:List Int)(j:Nat)(h:j<l.length):z5h 0 (l.take (j+1))=z5h 0 (l.take j) * 256+l.getD j 0:=by
 rw[List.take_succ_eq_append_getElem h,z5h,List.foldl_append]
 simp[z5h,List.getD,h]
theorem j3j(q c:Int)(f:0<=q)(g:q<281474976710656)(hc:0<=c)(h:c<256):bits BinOp.or IntKind.i64 (q * 256) (wrap64 c)=q * 256+c:=by
 have j:wrap64 c=c:=by unfold wrap64;omega
 rw[j];obtain⟨a,rfl⟩:=Int.eq_ofNat_of_zero_le f;obtain⟨b,rfl⟩:=Int.eq_ofNat_of_zero_le hc
 have d:a * 256 ||| b=a * 256+b:=by
  have:=Nat.two_pow_add_eq_or_of_lt (i:=8) (b:=b) (by omega) a
  rw[Nat.mul_comm a 256];exact this.symm
 have h1:(BitVec.ofInt 64 ((a * 256:Nat):Int)).toNat=a * 256:=by
  rw[BitVec.ofInt_natCast,BitVec.toNat_ofNat];exact Nat.mod_eq_of_lt (by omega)
 have h2:(BitVec.ofInt 64 (b:Int)).toNat=b:=by
  rw[BitVec.ofInt_natCast,BitVec.toNat_ofNat];exact Nat.mod_eq_of_lt (by omega)
 have e:(a:Int) * 256=((a * 256:Nat):Int):=by omega
 rw[e]
 show IntKind.i64.wrap ((BitVec.ofInt 64 ((a * 256:Nat):Int) ||| BitVec.ofInt 64 (b:Int)).toNat:Int)=_
 rw[BitVec.toNat_or,h1,h2,d]
 simp[IntKind.wrap,IntKind.bits,IntKind.signed]
 omega
theorem q5J(b:Nat)(st:List Int×Bool)(m:Nat)(w:World)(d:TS w b st)(C:m<=7) :
  Calls prog 46 #[J2 (some ⟨b,0,none⟩),J I m] w fun e w'=>e=.returned (J I (tk m st).1)/\TS w' b (tk m st).2/\w.grownBy w' (some b):=by
 obtain⟨r,d,x,y⟩:=d;obtain⟨l,sh⟩:=st;dsimp only at d x;subst x;have o:=y;unfold maxLen at y;obtain⟨c0,c1,f0,f1⟩:=d.cells
 by_cases f:r.size<m
 ·have e:tk m (bs r,sh)=(0,([],true)):=by rw[tk,if_pos (by rw[z2o];exact f)]
  rw[e];have p:Hid _:=(d.set1 true).set0 ⟨#[]⟩;clear d
  go_enter func46,ntmps46
  go_wp2;go_ret;exact⟨rfl,⟨⟨#[]⟩,p.out,rfl,by decide⟩,z4w (z3H _ _ _ _) (z3H _ _ _ _)⟩
 ·have e:tk m (bs r,sh)=(z5h 0 ((bs r).take m),((bs r).drop m,sh)):=by rw[tk,if_neg (by rw[z2o];exact f)]
  rw[e];have p:Hid _:=d.set0 (r.extract m r.size);have z:Hid _:=z9e r m;clear d
  go_enter func46,ntmps46
  go_wp2
  go_loop [5,21] (fun n i=>∃ j:Nat,j<=m/\i=J I j/\n=J I (z5h 0 ((bs r).take j))) (fun _ i=>m - (intOf i).toNat)
  case atStart=>exact⟨0,Nat.zero_le _,rfl,by simp[z5h]⟩
  case round =>
   obtain⟨j,D,rfl,rfl⟩:=hrel
   by_cases h:j<m
   ·have g:j<r.size:=by omega
    have a:=z8F ((bs r).take j) 0 0 (fun c hc=>z9P r c (List.mem_of_mem_take hc)) (by omega) (by omega)
    have k:((bs r).take j).length=j:=by rw[List.length_take,z2o];omega
    rw[k,Nat.zero_add]at a;have s:0<=z5h 0 ((bs r).take j):=a.1
    have t:z5h 0 ((bs r).take j)<281474976710656:=by
     have hp:(2:Int) ^ (8 * j)<=281474976710656:=j4x (by omega)
     have:=a.2;omega
    have u:=r[j].toNat_lt
    have A:Hid (z5h 0 ((bs r).take (j+1))=z5h 0 ((bs r).take j) * 256+(r[j].toNat:Int)):=by
     show _=_
     rw[q6N _ _ (by rw[z2o];exact g),j6z r j g]
    clear a k;generalize z5h 0 ((bs r).take j)=q at *;have B:Hid _:=j3j q (r[j].toNat:Int) s t (by omega) (by omega)
    clear u;go_wp2
    go_round
    case rel=>exact⟨j+1,by omega,by go_num,by rw[B.out,A.out]⟩
    case measure=>simp[intOf];omega
   ·have v:j=m:=by omega
    subst v;go_wp2;go_ret;exact⟨rfl,⟨_,p.out,z.out,Nat.le_trans (size_ext r j) o⟩,z3H _ _ _ _⟩
def encS(k i v n:Int)(S:List (Int×Int))(D:List Int):ByteArray:=if z0s k i v n S D=0 then strOfNums (enc k i v n S D) else ⟨#[]⟩
theorem z5M(k i v n:Int)(S:List (Int×Int))(D:List Int)(sa da:Option Addr)(cs cd sb so db dO:Nat)(w:World)(L:q5V w S D sa da sb so db dO) :
  Calls prog 117 #[J4 #[J I k,J I i,J I v,J I n,J1 sa S.length cs,J1 da D.length cd]] w fun e w'=>e=.returned (.tuple #[.string (encS k i v n S D),J I (z0s k i v n S D)])/\Bl w w':=by
 by_cases h:z0s k i v n S D=0
 ·rw[encS,if_pos h,h];exact q9x k i v n S D sa da cs cd sb so db dO w L.hls L.hld L.hsa L.hda L.PS L.PD h
 ·rw[encS,if_neg h];exact q4c k i v n S D sa da cs cd sb so db dO w L.hls L.hld L.hsa L.hda L.PS L.PD h
end Cd
namespace Pv
open Go.RowKit
def z7Y(last:Int)(x:Int×Int):Bool:=decide (last<x.1) && decide (x.1<=5) && decide (1<=x.2) && decide (x.2<=1125899906842624)
def z3l(last:Int):List (Int×Int)->Bool
 | []=>true
 | x :: l=>z7Y last x && z3l x.1 l
def z2j(last:Int):List Int->Bool
 | []=>true
 | x :: l=>(decide (last<x) && decide (x<=5)) && z2j x l
theorem z4u{α:Type}{l:List α}{k:Nat}(h:k<l.length):∃ x,l[k]?=some x/\l.drop k=x :: l.drop (k+1):=⟨l[k],List.getElem?_eq_getElem h,List.drop_eq_getElem_cons h⟩
end Pv
section
open Go.RowKit
theorem j2J{s:St}:∀ {n k:Nat},k<n->j2z s k=false->pvs s n=false
  | 0,_,h,_=>by omega
  | n+1,k,h,hk=>by
    rw[pvs]
    rcases (show k<n∨k=n by omega) with a | rfl
    · rw[j2J a hk,Bool.false_and]
    · rw[hk,Bool.and_false]
theorem q3C{s:St}:∀ {n k:Nat},pvs s n=true->k<n->j2z s k=true
  | 0,_,_,h=>by omega
  | n+1,k,h,hk=>by
    rw[pvs,Bool.and_eq_true]at h
    rcases (show k<n∨k=n by omega) with a | rfl
    · exact q3C h.1 a
    · exact h.2
theorem z2e{x:Vd}(h:vOk x=true):inA x.tok=true/\inA x.sh=true/\inA x.lost=true:=by
  unfold vOk at h;simp only[Bool.and_eq_true]at h;exact⟨h.1.1.1.1,h.1.1.1.2,h.1.1.2⟩
theorem z7c{next:Int}:∀ {l:List Wt} {last:Int},wOk next last l=true->∀ x∈l,inA x.amt=true
  | [],_,_,x,a=>by cases a
  | y :: r,last,h,x,a=>by
    rw[wOk,Bool.and_eq_true]at h
    rcases List.mem_cons.1 a with rfl | a
    · have:=h.1;unfold q1b at this;simp only[Bool.and_eq_true]at this;exact this.1.1.2
    · exact z7c h.2 x a
theorem z7I(s:St)(ao:Option Addr)(sb so c:Nat)(w:World)(B:z2k w ao sb so s.W) :
    Calls prog 94 #[J4 (stC s (J1 ao s.W.length c))] w fun e w'=>e=.returned (J3 (z0m s))/\Bl w w':=by
  have y:=SAt.new w (stC s (J1 ao s.W.length c));have j:Hid (Bl w (w.alloc (J5 (stC s (J1 ao s.W.length c)) 43))):=znw w _;have F:Hid (z2k w ao sb so s.W):=B;have G:=B.len;have l:=z0o s.b.f0 s.b.f1 s.b.f2 s.b.f3 s.b.bo s.b.wa s.b.bu;have m:=fun w h=>z9x s.W ao sb so c s.next w h
  have z:Hid (z0m s=(z1u s.b.f0 s.b.f1 s.b.f2 s.b.f3 s.b.bo s.b.wa s.b.bu && decide (1<=s.next) && decide (s.next<=1125899906842624) && decide (s.W.length<=60) && wOk s.next 0 s.W && pvs s 6 && bal s)):=rfl
  have n:Hid (wOk s.next 0 s.W=true->∀ x∈s.W,inA x.amt=true):=z7c
  generalize z1u s.b.f0 s.b.f1 s.b.f2 s.b.f3 s.b.bo s.b.wa s.b.bu=t1 at *;generalize wOk s.next 0 s.W=t2 at *
  clear B
  go_enter func94,ntmps94
  go_upto_region 1 with fail
  generalize w.alloc (J5 (stC s (J1 ao s.W.length c)) 43)=w0 at *;obtain⟨L,M,N,P,Q,R,T,U,X⟩:=z0r y
  go_wp2_with (first
    | (go_at_call 134;refine (l _).mono ?_;rintro e w1⟨rfl,h1⟩;have A:=y.later h1 y.lt;have a:Hid (Bl w w1):=zbt j.out h1;obtain⟨y0,Y,Z,y3,y4,y5,y6,y7,y8⟩:=z0r A;clear L M N P Q R T U X y0 Y Z y3 y4 y5 y6 h1 y j)
    | (go_at_call 135;refine (m _ (by exact F.out.over a.out)).mono ?_;rintro e C⟨rfl,h2⟩;have o:Hid (Bl w C):=zbt a.out h2;have D:=A.later h2 A.lt;clear h2 A y7 y8))
  all_goals first
    | (go_ret;first | (refine⟨?_,o.out⟩;rw[z.out];congr 1;congr 1;first | (simp_all;done) | (cases t2 <;> simp_all <;> omega) | (simp_all;omega) | (simp_all;intros;omega)) | (refine⟨?_,a.out⟩;rw[z.out];congr 1;congr 1;first | (simp_all;done) | (simp_all;omega) | (simp_all;intros;omega)))
    | skip
  have p:s.W.length<=60:=by omega
  have q:z0m s=(pvs s 6 && bal s):=by rw[z.out];simp_all
  have r:Hid (z0m s=(pvs s 6 && bal s)):=q;have HA:Hid (∀ x∈s.W,inA x.amt=true):=n.out (by simp_all)
  have t:w.heap.size<C.heap.size:=D.lt;clear z n l m a;clear q;obtain rfl:t2=true:=by simp_all
  simp only[Bool.not_true,Bool.or_false]
  go_loopw [30] (fun i wl=>∃ k:Nat,k<=6/\i=J I (k:Int)/\Hid (pvs s k=true/\Bl C wl)) (fun i _=>(6 - intOf i).toNat)
  case atStart=>exact⟨0,by omega,rfl,rfl,Below.refl _ _⟩
  case round =>
    obtain⟨k,hk,rfl,g⟩:=hrel;have d:Hid (Bl w wr):=o.out.trans (g.out.2.mono (Nat.le_of_lt t));have u:=D.later g.out.2 t;clear D
    by_cases f:k<6
    · obtain⟨c0,c1,c2,c3,H⟩:=u.val k f
      have a0:(k:Int)<6:=by omega
      have j1:=z6l w.heap.size (7+k * 5) (s.V k) wr c0 c1 c2 c3 H;have j2:=z8j s (J1 ao s.W.length c) w.heap.size k f wr u;have K:Hid (j2z s k=(vOk (s.V k) && q4S s.S k (s.V k).sh)):=rfl;generalize vOk (s.V k)=t3 at *;generalize q4S s.S k (s.V k).sh=t4 at *;clear c0 c1 c2 c3 H u
      go_wp2_with (first
        | (go_at_call 136;refine j1.mono ?_;rintro e w4⟨rfl,rfl⟩)
        | (go_at_call 137;refine j2.mono ?_;rintro e w4⟨rfl,rfl⟩))
      all_goals first
        | (go_ret;refine⟨?_,d.out⟩;rw[r.out,j2J f (by rw[K.out];simp_all)];rfl)
        | (go_roundw
           case rel =>
             have hp:pvs s (k+1)=true:=by rw[pvs,g.out.1,K.out];simp_all
             exact⟨k+1,by omega,by go_num,hp,g.out.2⟩
           case measure=>simp[intOf];omega)
    · obtain rfl:k=6:=by omega
      have hj:=z8h s ao sb so c w.heap.size wr u (F.out.over d.out) p (fun i hi=>by have h:=q3C g.out.1 hi;rw[j2z,Bool.and_eq_true]at h;exact⟨(z2e h.1).1,(z2e h.1).2.2⟩) HA.out
      have v:z0m s=bal s:=by rw[r.out,g.out.1,Bool.true_and]
      have E:Hid (z0m s=bal s):=v;clear v;generalize bal s=t5 at *;clear u
      go_wp2_with (go_at_call 138;refine hj.mono ?_;rintro e w5⟨rfl,h5⟩)
      go_ret;refine⟨?_,zbt d.out h5⟩;rw[E.out];rfl
def pwL:List Pw->List Value
 | []=>[]
 | x :: r=>.int .i64 x.1 :: J I x.2 :: pwL r
theorem z9f:∀ (a b:List Pw),pwL (a ++ b)=pwL a ++ pwL b
 | [],_=>rfl
 | x :: r,b=>by simp only[List.cons_append,pwL,z9f r b]
theorem q8g:∀ (l:List Pw) (i:Nat) (x:Pw),l[i]?=some x->(pwL l)[i * 2]?=some (J I x.1)/\(pwL l)[i * 2+1]?=some (J I x.2)
 | [],i,x,h=>by simp at h
 | y :: r,0,x,h=>by simp at h;subst h;exact⟨rfl,rfl⟩
 | y :: r,i+1,x,h=>by
  have:=q8g r i x (by simpa using h)
  rw[show (i+1) * 2=i * 2+1+1 by omega]
  simpa [pwL] using this
theorem q6f:(prog.info? 65).map (fun i=>(i.zero,i.size,i.bytes))=some (some (J4 #[J I 0,J I 0]),2,16):=by kernel_rfl
def z5F(w:World)(B:Nat)(v:Value)(l:List Pw):Prop:=w.ownsRow B 65 2 v l.length (pwL l)
theorem z5F.nil(w:World)(B:Nat):z5F w B (J1 none 0 0) []:=⟨rfl,.inl ⟨rfl,rfl⟩⟩
theorem z5F.row{w:World}{B:Nat}{v:Value}{l:List Pw}(h:z5F w B v l):(v=J1 none 0 0/\l=[])∨∃ g cap,v=J1 (some ⟨g,0,none⟩) l.length cap/\B<=g/\z1K w g l/\l.length<=cap/\cap<=maxLen:=by
 obtain⟨_,h⟩:=h
 rcases h with⟨h1,h2⟩ | ⟨g,cap,cur,h1,h2,h3,h4,h5,h6,h7⟩
 ·exact .inl ⟨h1,List.length_eq_zero_iff.1 h2⟩
 ·refine .inr ⟨g,cap,h1,h2,⟨cur,h3,fun i x a=>?_⟩,h4,h5⟩;obtain⟨b,g2⟩:=q8g l i x a;have c:=(List.getElem?_eq_some_iff.1 a).1;rw[<- h7,List.getElem?_take_of_lt (by omega)]at b g2
  exact⟨by simpa using b,by simpa using g2⟩
def j8p(w:World)(B:Nat)(v:Value)(l:List Pw):Prop:=(v=J1 none 0 0/\l=[])∨∃ g cap,v=J1 (some ⟨g,0,none⟩) l.length cap/\B<=g/\z1K w g l/\l.length<=cap/\cap<=maxLen
theorem q2d(w:World)(a b:Int)(t:TypeId):∀ j u,([J I a,J I b]:List Value)[j]?=some u->(w.alloc (J5 #[J I a,J I b] t)).cell? ((⟨w.heap.size,0,none⟩:Addr).add j)=some u:=by
 intro j u c
 rcases j with _ | _ | j
 ·simp at c;subst c;simp[Addr.add]
 ·simp at c;subst c;simp[Addr.add]
 ·simp at c
theorem z5F.append{w:World}{B:Nat}{v:Value}{l:List Pw}{x:Pw}{n:Nat}(h:w.ownsRow B 65 2 v n (pwL l ++ [J I x.1,J I x.2]))(a:n=l.length+1):z5F w B v (l ++ [x]):=by
 unfold z5F;rw[List.length_append,z9f];subst a;exact h
theorem z5F.own{w:World}{B:Nat}{v:Value}{l:List Pw}(h:z5F w B v l):∀ k,v.ownBlock=some k->B<=k:=by
 intro k a
 rcases h.row with⟨rfl,_⟩ | ⟨g,cap,rfl,hg,_⟩
 ·simp[Value.ownBlock]at a
 ·simp[Value.ownBlock]at a;omega
theorem z5F.grow{w w1:World}{B C:Nat}{v:Value}{l:List Pw}{a:World}{o:Obj}(h:z5F w B v l)(hb:Below C a w)(c:(w.alloc o).grownBy w1 v.ownBlock)(b:C<=B)(d:B<=w.heap.size):Below C a w1:=
 (hb.alloc (Nat.le_trans b d) o).grown c (by simp;omega) (fun k e=>Nat.le_trans b (h.own k e))
theorem q2f(a:Value)(w:World):Calls prog 175 #[J1 none 0 0,J I 0,J I 0,a] w fun e w'=>e=.returned (.tuple #[])/\w=w':=by
 go_enter func175,ntmps175
 go_wp2
 go_loop [8] (fun i=>i=J I 1) (fun _=>0)
 case atStart=>rfl
 case round =>
  subst hrel;go_wp2;go_end0;exact⟨rfl,rfl⟩
theorem q5S(c:Value)(w:World):Calls prog 112 #[J1 none 0 0,c] w fun e w'=>e=.returned (.tuple #[])/\w=w':=by
 have g:=q0x 0 (by omega) w
 have h:∀ k,Calls prog 153 #[J1 none 0 0,J I 0,J I 0,J I k,c] w fun e w'=>e=.returned (.tuple #[])/\w=w':=by
  intro k;have i:=q2f c w
  go_enter func153,ntmps153
  go_wp2_with fail
  go_loopw [1,2] (fun a b wl=>a=J I 0/\b=J I 0/\Hid (wl=w)) (fun _ _ _=>0)
  case atStart=>exact⟨rfl,rfl,rfl⟩
  case round =>
   obtain⟨rfl,rfl,f⟩:=hrel;have e:=f.out;subst e;clear f
   go_wp2_with (go_at_call 175;refine i.mono ?_;rintro e w1⟨rfl,h1⟩;have d:=J6 h1;clear h1)
   exact bodyPost_ret (v:=.tuple #[]) (by simp[results,results153]) rfl ⟨rfl,d.out⟩
 go_enter func112,ntmps112
 go_wp2_with (first
  | (go_at_call 154;refine g.mono ?_;rintro e w1⟨⟨k,rfl⟩,rfl⟩)
  | (go_at_call 153;refine (h _).mono ?_;rintro e j⟨rfl,h1⟩;have d:=J6 h1;clear h1))
 go_end0;exact⟨rfl,d.out⟩
end
namespace Wd
open Go.ChangeShapes Go.WideShapes Go.ChangeAt Go.RowKit Go.Deep Pv
def ddL(x:Dd):List Value:=[J I x.k,J I x.c,J I x.d,J I x.v,J I x.n,J3 x.b,J3 x.f]
structure z9X(w:World)(ao:Option Addr)(b off:Nat)(l:List Dd):Prop where
 adr:0<l.length->ao=some ⟨b,off,none⟩
 len:l.length<=maxLen
 cell:∀ (i:Nat) (x:Dd),l[i]?=some x->w.rangeAt b (off+i * 7) (ddL x)
def q1k(v:Value):Sem Value:=Instr.loadAt 28 v
theorem z6Z(v:Value):Instr.loadAt 28 v=q1k v:=rfl
theorem j4n{β:Type}{p:Nat->β->Prop}(d:β){n:Nat}(h:∀ i,i<n->∃ y,p i y):∃ f:Nat->β,∀ i,i<n->p i (f i):=by
 refine⟨fun i=>if a:i<n then Classical.choose (h i a) else d,fun i a=>?_⟩;simp only[dif_pos a];exact Classical.choose_spec (h i a)
theorem cI':prog.cellsOf 3=1:=by kernel_rfl
theorem cT':prog.cellsOf 4=1:=by kernel_rfl
theorem cDd:prog.cellsOf 28=7:=by kernel_rfl
section
variable {H:Type} {enc:TypeId×Value->H} {W:World}
theorem j3t{m:Nat}{l:List Value}{y:DataW H×List MemPlace}(h:DataW.trod enc prog W 0 (fun _=>true) true m 28 l=some y):∃ x:Dd,l=ddL x:=by
 obtain⟨t,n,_,_,c,b,a⟩:=DataW.trod_struct underlying28 h;rw[cDd]at c
 match l,c with
 | [a0,a1,a2,a3,a4,a5,a6],_ =>
  match t,b with
  | [y0,y1,y2,y3,y4,y5,y6],_ =>
   have t0:=a 0 _ rfl;have t1:=a 1 _ rfl;have d:=a 2 _ rfl;have e:=a 3 _ rfl;have f:=a 4 _ rfl;have g:=a 5 _ rfl;have i:=a 6 _ rfl
   simp[cI',cT']at t0 t1 d e f g i
   obtain⟨q0,j,_⟩:=DataW.trod_int underlying3 t0;obtain⟨q1,k,_⟩:=DataW.trod_int underlying3 t1;obtain⟨q2,o,_⟩:=DataW.trod_int underlying3 d;obtain⟨q3,p,_⟩:=DataW.trod_int underlying3 e;obtain⟨u,q,_⟩:=DataW.trod_int underlying3 f;obtain⟨v,r,_⟩:=DataW.trod_bool underlying4 g;obtain⟨w,s,_⟩:=DataW.trod_bool underlying4 i
   simp at j k o p q r s
   subst j k o p q r s;exact⟨⟨q0,q1,q2,q3,u,v,w⟩,rfl⟩
theorem z8E{r:Reach}{b0:Nat}{v:Value}{d:DataW H}{p:List MemPlace}(m:Value.okWide prog W r b0 22 v)(h:DataW.Trod enc prog W 0 (fun _=>true) true 22 v d p) :
  ∃ (l:List Dd) (ao:Option Addr) (c b off:Nat),v=J1 ao l.length c/\z9X W ao b off l/\(ao=none->c=0)/\l.length<=c:=by
 obtain⟨a,len,cap,rfl⟩:=okWide_slice underlying22 m;obtain⟨u,w⟩:=h
 rcases open_slice underlying22 w with⟨h0,_⟩ | ⟨a,len',cap',k,n,D,Pl,hcs,_,hlc,hmx,hk,hy,hx⟩
 ·simp[Value.cells]at h0
  obtain⟨rfl,rfl,rfl⟩:=h0;exact⟨[],none,0,0,0,rfl,⟨fun h=>absurd h (by simp),by simp,fun i x h=>by simp at h⟩,fun _=>rfl,Nat.le_refl _⟩
 simp[Value.cells]at hcs
 obtain⟨rfl,rfl,rfl⟩:=hcs;simp only[if_true]at hk;subst hk;rw[cDd]at hx
 obtain⟨g,y⟩:=j4n (n:=k) (p:=fun i (x:Dd)=>W.cells? 0 (a.add (i * 7)) 7=some (ddL x)) ⟨0,0,0,0,0,false,false⟩ (fun i o=>by
  obtain⟨cs',h1,h2⟩:=hx i o;obtain⟨x,rfl⟩:=j3t h2
  exact⟨x,h1⟩)
 have e:((List.range len).map g).length=len:=by simp
 by_cases h0:len=0
 ·subst h0;exact⟨[],some a,k,0,0,rfl,⟨fun h=>absurd h (by simp),by simp,fun i x h=>by simp at h⟩,(fun h=>by cases h),Nat.zero_le _⟩
 have hcell:∀ i,i<k->∀ j v,(ddL (g i))[j]?=some v->W.cell? ((a.add (i * 7)).add j)=some v:=fun i o j v m=>by
  obtain⟨_,s,hc⟩:=World.cells?_some (y i o);have z:j<7:=by have:=(List.getElem?_eq_some_iff.1 m).1;simpa [ddL] using this
  rw[hc j z];exact m
 obtain⟨b,off,q⟩:=a
 have f:q=none:=by
  have:=hcell 0 (by omega) 0 _ rfl
  simpa [Addr.add] using World.cell?_spot this
 subst f;refine⟨(List.range len).map g,some ⟨b,off,none⟩,k,b,off,by rw[e],⟨fun _=>rfl,by rw[e];omega,fun i x o=>?_⟩,(fun h=>by cases h),by rw[e];omega⟩
 have t:i<len:=by have:=(List.getElem?_eq_some_iff.1 o).1;simpa using this
 obtain rfl:g i=x:=by simpa [t] using o
 have hc:=hcell i (by omega)
 simp only[Addr.add_lit]at hc;intro j v m;exact hc j v m
end
end Wd
end Go.Proofs.YtddlhnoedldidaaGreat
