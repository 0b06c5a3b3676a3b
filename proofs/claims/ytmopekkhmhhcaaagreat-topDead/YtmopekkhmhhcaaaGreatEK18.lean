/- Parts of the proof. -/
import Derived.Test.YtmopekkhmhhcaaaGreatEL
import Derived.Test.YtmopekkhmhhcaaaGreatEK44
import Derived.Test.YtmopekkhmhhcaaaGreatEK45
import Derived.OpenShut
import Derived.Deep.Slices
import Derived.SizedLaws
set_option maxRecDepth 100000
set_option maxHeartbeats 16000000
namespace Go.Proofs.YtmopekkhmhhcaaaGreat
open Go.Proofs.Tryz
namespace Pv
open Go.RowKit
structure Alt(g:Nat)(w w':World):Prop where
 os:w'.os=w.os
 tape:w'.tape=w.tape
 output:w'.output=w.output
 size:w.heap.size<=w'.heap.size
 block:∀ k,k<w.heap.size->k≠g->w'.heap[k]?=w.heap[k]?
theorem Alt.refl(g:Nat)(w:World):Alt g w w:=⟨rfl,rfl,rfl,Nat.le_refl _,fun _ _ _=>rfl⟩
theorem Alt.trans{g:Nat}{w w1 w2:World}(h:Alt g w w1)(k:Alt g w1 w2):Alt g w w2:=⟨k.os.trans h.os,k.tape.trans h.tape,k.output.trans h.output,Nat.le_trans h.size k.size,fun i hi hn=>(k.block i (Nat.lt_of_lt_of_le hi h.size) hn).trans (h.block i hi hn)⟩
theorem Alt.of{g:Nat}{w w':World}(h:Below w.heap.size w w'):Alt g w w':=⟨h.os,h.tape,h.output,h.size,fun k hk _=>h.block k hk⟩
theorem Alt.below{g B:Nat}{w w':World}(h:Alt g w w')(hB:B<=g)(hw:B<=w.heap.size):Below B w w':=⟨h.os,h.tape,h.output,h.size,fun k hk=>h.block k (by omega) (by omega)⟩
theorem Alt.set{g:Nat}{w w':World}(h:Alt g w w')(o:Nat)(v:Value):Alt g w (w'.setCell ⟨g,o,none⟩ v):=
 ⟨h.os,h.tape,h.output,(by simp[World.setCell];exact h.size),fun k hk hn=>(Below.heap_setCell _ _ _ _ hn).trans (h.block k hk hn)⟩
theorem Alt.sets{g:Nat}:∀ (vs:List Value) {w w':World} (_:Alt g w w') (o:Nat),Alt g w (w'.setCells g o vs)
 | [],_,_,h,_=>h
 | _ :: r,_,_,h,o=>Alt.sets r (h.set o _) (o+1)
theorem Alt.cat{g:Nat}{w w':World}(h:Alt g w w'){b:Nat}(hb:b≠g){t:TypeId}{cs:Array Value}(c:CAt t w b cs):CAt t w' b cs:=(h.block b c.lt hb).trans c
theorem Alt.rep{g:Nat}{w w':World}(h:Alt g w w'){P:Nat->Prop}(hP:¬ P g){v:Value}{sz bts:Nat}{cs:List Value}(hp:Rep P w v sz bts cs):Rep P w' v sz bts cs:=hp.keep fun b hb hlt=>h.block b hlt (fun e=>hP (e ▸ hb))
def New(P:Nat->Prop)(w:World)(k b:Nat):Prop:=(P b/\b<w.heap.size)∨w.heap.size+k<=b
theorem z3F{P:Nat->Prop}{w:World}{k j:Nat}(h:j<k):¬ New P w k (w.heap.size+j):=fun hn=>by
 rcases hn with ⟨_,h1⟩ | h1 <;> omega
end Pv
namespace Pv
open Go.RowKit
def z0I(P:Nat->Prop)(w:World)(v:Value)(sz bts:Nat)(cs:List Value):Prop:=∃ (A:Option Addr) (n C C':Nat),v=.slice A n C/\(A=none->C=0)/\Rep P w (.slice A n C') sz bts cs
section
variable {P P':Nat->Prop} {w w':World} {v:Value} {sz bts:Nat} {cs:List Value}
theorem Rep.c(h:Rep P w v sz bts cs):z0I P w v sz bts cs:=by
 obtain ⟨A,n,C,rfl,h2⟩:=id h;exact ⟨A,n,C,C,rfl,h2.2.2.1.1,h⟩
theorem z0I.nil(P:Nat->Prop)(w:World)(sz bts:Nat):z0I P w (.slice none 0 0) sz bts []:=(Rep.nil P w sz bts).c
theorem z0I.mono(h:z0I P w v sz bts cs)(hp:∀ b,b<w.heap.size->P b->P' b):z0I P' w v sz bts cs:=by
 obtain ⟨A,n,C,C',h1,h2,h3⟩:=h;exact ⟨A,n,C,C',h1,h2,h3.mono hp⟩
theorem z0I.keep(h:z0I P w v sz bts cs)(hk:∀ b,P b->b<w.heap.size->w'.heap[b]?=w.heap[b]?):z0I P w' v sz bts cs:=by
 obtain ⟨A,n,C,C',h1,h2,h3⟩:=h;exact ⟨A,n,C,C',h1,h2,h3.keep hk⟩
theorem z0I.over(h:z0I P w v sz bts cs)(hb:Below w.heap.size w w'):z0I P w' v sz bts cs:=h.keep fun b _ hlt=>hb.block b hlt
theorem z0I.one(h:z0I P w v sz bts cs):v.oneCell'=true:=by
 obtain ⟨A,n,C,C',rfl,_⟩:=h;rfl
theorem z0I.line{x:Ln.Line}{v1 v2:Value}(h1:z0I P w v1 1 16 (txC x.S))(h2:z0I P w v2 1 8 (inC x.D)):∃ A1 C1 A2 C2 sb so db dO,v1=.slice A1 x.S.length C1/\v2=.slice A2 x.D.length C2/\Ln.LAt w x A1 A2 C1 C2 sb so db dO/\(0<x.S.length->P sb)/\(0<x.D.length->P db):=by
 obtain ⟨A,n,C,C',rfl,n1,r1⟩:=h1;obtain ⟨B,m,D,D',rfl,n2,r2⟩:=h2;obtain ⟨A1,C1,A2,C2,sb,so,db,dO,e1,e2,L,p1,p2⟩:=Rep.line r1 r2;cases e1;cases e2;exact ⟨_,_,_,_,sb,so,db,dO,rfl,rfl,⟨L.hls,L.hld,L.hsa,L.hda,n1,n2,L.PS,L.PD⟩,p1,p2⟩
theorem j3J{x:Ln.Line}{sa da:Option Addr}{cs cd sb so db dO:Nat}(L:Ln.LAt w x sa da cs cd sb so db dO)(hp:0<x.S.length->P sb):z0I P w (.slice sa x.S.length cs) 1 16 (txC x.S):=by
 refine ⟨sa,x.S.length,cs,x.S.length,rfl,L.ncs,sa,x.S.length,x.S.length,rfl,z1L _,L.hls,⟨fun e=>?_,Nat.le_refl _⟩,fun h0=>⟨sb,so,L.hsa h0,hp h0,L.ltS h0,fun j u hu=>?_⟩⟩
 ·rcases Nat.eq_zero_or_pos x.S.length with h | h
  ·exact h
  ·rw[L.hsa h]at e;cases e
 ·have hj:j<x.S.length:=by have:=(List.getElem?_eq_some_iff.1 hu).1;rw[z1L]at this;omega
  rw[L.PS j hj,← hu,z7D _ j hj]
theorem j5a{x:Ln.Line}{sa da:Option Addr}{cs cd sb so db dO:Nat}(L:Ln.LAt w x sa da cs cd sb so db dO)(hp:0<x.D.length->P db):z0I P w (.slice da x.D.length cd) 1 8 (inC x.D):=by
 refine ⟨da,x.D.length,cd,x.D.length,rfl,L.ncd,da,x.D.length,x.D.length,rfl,z0p _,L.hld,⟨fun e=>?_,Nat.le_refl _⟩,fun h0=>⟨db,dO,L.hda h0,hp h0,L.ltD h0,fun j u hu=>?_⟩⟩
 ·rcases Nat.eq_zero_or_pos x.D.length with h | h
  ·exact h
  ·rw[L.hda h]at e;cases e
 ·have hj:j<x.D.length:=by have:=(List.getElem?_eq_some_iff.1 hu).1;rw[z0p]at this;omega
  rw[L.PD j hj,← hu,z3J _ j hj]
end
def j7N(P:Nat->Prop)(w:World)(x:Ln.Line)(er:Int)(e:Ending)(w':World):Prop:=∃ u1 u2,e=.returned (.tuple #[.agg #[u1,u2,.int .i64 x.g,.bool x.cl],.int .i64 er])/\z0I (New P w 0) w' u1 1 16 (txC x.S)/\z0I (New P w 0) w' u2 1 8 (inC x.D)/\Below w.heap.size w w'
theorem j3T{P:Nat->Prop}{w w':World}{x y:Ln.Line}{er:Int}{e:Ending}{A1 A2:Option Addr}{C1 C2 sb so db dO:Nat}(L:Ln.LAt w x A1 A2 C1 C2 sb so db dO)(p1:0<x.S.length->P sb)(p2:0<x.D.length->P db)(h:Ln.Ans sb db x w (y,er) e w'):j7N P w y er e w':=by
 obtain ⟨v,rfl,⟨sa,da,cs,cd,sb',so',db',dO',rfl,L',s1,s2⟩,hb⟩:=h;refine ⟨_,_,rfl,j3J L' fun h0=>?_,j5a L' fun h0=>?_,hb⟩
 ·rcases (s1 h0).2 with ⟨rfl,e⟩ | h
  ·rw[e]at h0;exact .inl ⟨p1 h0,L.ltS h0⟩
  ·exact .inr h
 ·rcases (s2 h0).2 with ⟨rfl,e⟩ | h
  ·rw[e]at h0;exact .inl ⟨p2 h0,L.ltD h0⟩
  ·exact .inr h
theorem q7r(x:Ln.Line)(s:ByteArray)(due:Int)(v1 v2:Value)(P:Nat->Prop)(w:World)(h1:z0I P w v1 1 16 (txC x.S))(h2:z0I P w v2 1 8 (inC x.D)):Calls prog 123 #[.agg #[v1,v2,.int .i64 x.g,.bool x.cl],.string s,.int .i64 due] w (j7N P w (Ln.z5b x s due) (Ln.z6x x due)):=by
 obtain ⟨A1,C1,A2,C2,sb,so,db,dO,rfl,rfl,L,p1,p2⟩:=z0I.line h1 h2;exact (Ln.j5t x A1 A2 C1 C2 sb so db dO s due w L).mono fun e w' h=>j3T L p1 p2 h
theorem q8u(x:Ln.Line)(v1 v2:Value)(P:Nat->Prop)(w:World)(h1:z0I P w v1 1 16 (txC x.S))(h2:z0I P w v2 1 8 (inC x.D)):Calls prog 145 #[.agg #[v1,v2,.int .i64 x.g,.bool x.cl]] w fun e w'=>e=.returned (.bool (Ln.z0T x))/\Below w.heap.size w w':=by
 obtain ⟨A1,C1,A2,C2,sb,so,db,dO,rfl,rfl,L,-,-⟩:=z0I.line h1 h2;exact Ln.z0o x A1 A2 C1 C2 sb so db dO w L
end Pv
namespace Wd
open Go.ChangeShapes Go.WideShapes Go.ChangeAt Go.RowKit Go.Deep
section
variable {H:Type} {enc:TypeId×Value->H} {W:World}
structure Dd where
 k:Int
 c:Int
 d:Int
 v:Int
 n:Int
 b:Bool
 f:Bool
def ddC(x:Dd):Array Value:=#[.int .i64 x.k,.int .i64 x.c,.int .i64 x.d,.int .i64 x.v,.int .i64 x.n,.bool x.b,.bool x.f]
end
end Wd
namespace Cd
open Go.RowKit
def bs(s:ByteArray):List Int:=s.data.toList.map fun u=>(u.toNat:Int)
theorem z2k(s:ByteArray):(bs s).length=s.size:=by simp[bs]
theorem z9E(s:ByteArray):∀ c∈bs s,0<=c/\c<256:=by
 intro c hc;obtain ⟨u,_,rfl⟩:=List.mem_map.1 hc;have:=u.toNat_lt;omega
theorem j6D(s:ByteArray)(j:Nat)(h:j<s.size):(bs s).getD j 0=(s[j].toNat:Int):=by
 have h':j<s.data.size:=h;rw[bs,List.getD,List.getElem?_map,Array.getElem?_toList,Array.getElem?_eq_getElem h'];rfl
theorem z8K(s:ByteArray)(m:Nat):bs (s.extract m s.size)=(bs s).drop m:=by
 unfold bs;rw[ByteArray.data_extract,Array.toList_extract,List.extract_eq_take_drop,← List.map_drop]
 congr 1
 rw[List.take_of_length_le]
 simp
def TAt(w:World)(b:Nat)(r:ByteArray)(sh:Bool):Prop:=w.heap[b]?=some (.cells #[.string r,.bool sh] 104)
theorem TAt.cells{w:World}{b:Nat}{r:ByteArray}{sh:Bool}(h:TAt w b r sh):w.cell? ⟨b,0,none⟩=some (.string r)/\w.cell? ⟨b,1,none⟩=some (.bool sh)/\w.frozen? ⟨b,0,none⟩=false/\w.frozen? ⟨b,1,none⟩=false:=by
 unfold TAt at h
 simp[World.cell?,World.frozen?,h]
theorem TAt.set0{w:World}{b:Nat}{r:ByteArray}{sh:Bool}(h:TAt w b r sh)(r':ByteArray):TAt (w.setCell ⟨b,0,none⟩ (.string r')) b r' sh:=by
 unfold TAt at *
 simp[World.setCell,Array.getElem?_modify,h]
theorem TAt.set1{w:World}{b:Nat}{r:ByteArray}{sh:Bool}(h:TAt w b r sh)(s':Bool):TAt (w.setCell ⟨b,1,none⟩ (.bool s')) b r s':=by
 unfold TAt at *
 simp[World.setCell,Array.getElem?_modify,h]
theorem z3s(w:World)(b o:Nat)(v:Value):w.grownBy (w.setCell ⟨b,o,none⟩ v) (some b):=
 ⟨rfl,rfl,rfl,by simp[World.setCell],fun k _ hk=>Below.heap_setCell _ _ _ _ (fun e=>hk (by rw[e]))⟩
theorem z4z{w w1 w2:World}{r:Option Nat}(h:w.grownBy w1 r)(k:w1.grownBy w2 r):w.grownBy w2 r:=
 ⟨k.os.trans h.os,k.tape.trans h.tape,k.output.trans h.output,Nat.le_trans h.size k.size,fun i hi hne=>(k.block i (Nat.lt_of_lt_of_le hi h.size) hne).trans (h.block i hi hne)⟩
def tk(m:Nat)(st:List Int×Bool):Int×(List Int×Bool):=if st.1.length<m then (0,([],true)) else (z5e 0 (st.1.take m),(st.1.drop m,st.2))
def TS(w:World)(b:Nat)(st:List Int×Bool):Prop:=∃ r,TAt w b r st.2/\bs r=st.1/\r.size<=maxLen
theorem j4w{j:Nat}(h:j<=6):(2:Int) ^ (8 * j)<=281474976710656:=by
 match j,h with
 | 0,_=>decide
 | 1,_=>decide
 | 2,_=>decide
 | 3,_=>decide
 | 4,_=>decide
 | 5,_=>decide
 | 6,_=>decide
theorem size_ext(r:ByteArray)(j:Nat):(r.extract j r.size).size<=r.size:=by
 have h:=z8K r j;have h2:=congrArg List.length h;rw[z2k,List.length_drop,z2k]at h2;omega
theorem z8U:∀ (l:List Int) (acc:Int) (B:Nat),(∀ c∈l,0<=c/\c<256)->0<=acc->acc<2 ^ (8 * B)->0<=z5e acc l/\z5e acc l<2 ^ (8 * (B+l.length)):=by
 intro l
 induction l with
 | nil=>intro acc B _ h0 h1;exact ⟨h0,by simpa [z5e] using h1⟩
 | cons c t ih =>
  intro acc B hc h0 h1;have hcc:=hc c (List.mem_cons_self ..);have h2:acc * 256+c<2 ^ (8 * (B+1)):=by rw[q0T];omega
  have:=ih (acc * 256+c) (B+1) (fun x hx=>hc x (List.mem_cons_of_mem _ hx)) (by omega) h2
  rw[show B+1+t.length=B+(c :: t).length by simp;omega]at this
  exact this
theorem q8v(l:List Int)(j:Nat)(h:j<l.length):z5e 0 (l.take (j+1))=z5e 0 (l.take j) * 256+l.getD j 0:=by
 rw[List.take_succ_eq_append_getElem h,z5e,List.foldl_append]
 simp[z5e,List.getD,h]
theorem j5h(q c:Int)(hq:0<=q)(hq2:q<281474976710656)(hc:0<=c)(hc2:c<256):bits BinOp.or IntKind.i64 (q * 256) (wrap64 c)=q * 256+c:=by
 have hw:wrap64 c=c:=by unfold wrap64;omega
 rw[hw];obtain ⟨a,rfl⟩:=Int.eq_ofNat_of_zero_le hq;obtain ⟨b,rfl⟩:=Int.eq_ofNat_of_zero_le hc
 have hor:a * 256 ||| b=a * 256+b:=by
  have:=Nat.two_pow_add_eq_or_of_lt (i:=8) (b:=b) (by omega) a
  rw[Nat.mul_comm a 256];exact this.symm
 have h1:(BitVec.ofInt 64 ((a * 256:Nat):Int)).toNat=a * 256:=by
  rw[BitVec.ofInt_natCast,BitVec.toNat_ofNat];exact Nat.mod_eq_of_lt (by omega)
 have h2:(BitVec.ofInt 64 (b:Int)).toNat=b:=by
  rw[BitVec.ofInt_natCast,BitVec.toNat_ofNat];exact Nat.mod_eq_of_lt (by omega)
 have e:(a:Int) * 256=((a * 256:Nat):Int):=by omega
 rw[e]
 show IntKind.i64.wrap ((BitVec.ofInt 64 ((a * 256:Nat):Int) ||| BitVec.ofInt 64 (b:Int)).toNat:Int)=_
 rw[BitVec.toNat_or,h1,h2,hor]
 simp[IntKind.wrap,IntKind.bits,IntKind.signed]
 omega
theorem q5g(b:Nat)(st:List Int×Bool)(m:Nat)(w:World)(hT:TS w b st)(hm:m<=7) :
  Calls prog 49 #[.pointer (some ⟨b,0,none⟩),.int .i64 m] w fun e w'=>e=.returned (.int .i64 (tk m st).1)/\TS w' b (tk m st).2/\w.grownBy w' (some b):=by
 obtain ⟨r,hT,hl,hr⟩:=hT;obtain ⟨l,sh⟩:=st;dsimp only at hT hl;subst hl;have hr':=hr;unfold maxLen at hr;obtain ⟨c0,c1,f0,f1⟩:=hT.cells
 by_cases hlt:r.size<m
 ·have e:tk m (bs r,sh)=(0,([],true)):=by rw[tk,if_pos (by rw[z2k];exact hlt)]
  rw[e];have HT:Hid _:=(hT.set1 true).set0 ⟨#[]⟩;clear hT
  go_enter func49,ntmps49
  go_wp2;go_ret;exact ⟨rfl,⟨⟨#[]⟩,HT.out,rfl,by decide⟩,z4z (z3s _ _ _ _) (z3s _ _ _ _)⟩
 ·have e:tk m (bs r,sh)=(z5e 0 ((bs r).take m),((bs r).drop m,sh)):=by rw[tk,if_neg (by rw[z2k];exact hlt)]
  rw[e];have HT:Hid _:=hT.set0 (r.extract m r.size);have HX:Hid _:=z8K r m;clear hT
  go_enter func49,ntmps49
  go_wp2
  go_loop [5,21] (fun n i=>∃ j:Nat,j<=m/\i=.int .i64 j/\n=.int .i64 (z5e 0 ((bs r).take j))) (fun _ i=>m - (intOf i).toNat)
  case atStart=>exact ⟨0,Nat.zero_le _,rfl,by simp[z5e]⟩
  case round =>
   obtain ⟨j,hj,rfl,rfl⟩:=hrel
   by_cases h:j<m
   ·have hjr:j<r.size:=by omega
    have hbd:=z8U ((bs r).take j) 0 0 (fun c hc=>z9E r c (List.mem_of_mem_take hc)) (by omega) (by omega)
    have hlj:((bs r).take j).length=j:=by rw[List.length_take,z2k];omega
    rw[hlj,Nat.zero_add]at hbd;have hb1:0<=z5e 0 ((bs r).take j):=hbd.1
    have hb2:z5e 0 ((bs r).take j)<281474976710656:=by
     have hp:(2:Int) ^ (8 * j)<=281474976710656:=j4w (by omega)
     have:=hbd.2;omega
    have hcb:=r[j].toNat_lt
    have HN:Hid (z5e 0 ((bs r).take (j+1))=z5e 0 ((bs r).take j) * 256+(r[j].toNat:Int)):=by
     show _=_
     rw[q8v _ _ (by rw[z2k];exact hjr),j6D r j hjr]
    clear hbd hlj;generalize z5e 0 ((bs r).take j)=q at *;have HO:Hid _:=j5h q (r[j].toNat:Int) hb1 hb2 (by omega) (by omega)
    clear hcb;go_wp2
    go_round
    case rel=>exact ⟨j+1,by omega,by go_num,by rw[HO.out,HN.out]⟩
    case measure=>simp[intOf];omega
   ·have hjm:j=m:=by omega
    subst hjm;go_wp2;go_ret;exact ⟨rfl,⟨_,HT.out,HX.out,Nat.le_trans (size_ext r j) hr'⟩,z3s _ _ _ _⟩
def encS(k i v n:Int)(S:List (Int×Int))(D:List Int):ByteArray:=if z0t k i v n S D=0 then strOfNums (enc k i v n S D) else ⟨#[]⟩
theorem z6g(k i v n:Int)(S:List (Int×Int))(D:List Int)(sa da:Option Addr)(cs cd sb so db dO:Nat)(w:World)(L:q5Y w S D sa da sb so db dO) :
  Calls prog 122 #[.agg #[.int .i64 k,.int .i64 i,.int .i64 v,.int .i64 n,.slice sa S.length cs,.slice da D.length cd]] w fun e w'=>e=.returned (.tuple #[.string (encS k i v n S D),.int .i64 (z0t k i v n S D)])/\Below w.heap.size w w':=by
 by_cases h:z0t k i v n S D=0
 ·rw[encS,if_pos h,h];exact q6M k i v n S D sa da cs cd sb so db dO w L.hls L.hld L.hsa L.hda L.PS L.PD h
 ·rw[encS,if_neg h];exact q5P k i v n S D sa da cs cd sb so db dO w L.hls L.hld L.hsa L.hda L.PS L.PD h
end Cd
namespace Pv
open Go.RowKit
def z8h(last:Int)(x:Int×Int):Bool:=decide (last<x.1) && decide (x.1<=5) && decide (1<=x.2) && decide (x.2<=1125899906842624)
def z3b(last:Int):List (Int×Int)->Bool
 | []=>true
 | x :: l=>z8h last x && z3b x.1 l
def z2e(last:Int):List Int->Bool
 | []=>true
 | x :: l=>(decide (last<x) && decide (x<=5)) && z2e x l
theorem z4r{α:Type}{l:List α}{k:Nat}(h:k<l.length):∃ x,l[k]?=some x/\l.drop k=x :: l.drop (k+1):=⟨l[k],List.getElem?_eq_getElem h,List.drop_eq_getElem_cons h⟩
end Pv
section
open Go.RowKit
theorem j2r{s:St}:∀ {n k:Nat},k<n->j3f s k=false->pvs s n=false
  | 0,_,h,_=>by omega
  | n+1,k,h,hk=>by
    rw[pvs]
    rcases (show k<n∨k=n by omega) with h' | rfl
    · rw[j2r h' hk,Bool.false_and]
    · rw[hk,Bool.and_false]
theorem q2D{s:St}:∀ {n k:Nat},pvs s n=true->k<n->j3f s k=true
  | 0,_,_,h=>by omega
  | n+1,k,h,hk=>by
    rw[pvs,Bool.and_eq_true]at h
    rcases (show k<n∨k=n by omega) with h' | rfl
    · exact q2D h.1 h'
    · exact h.2
theorem z2a{x:Vd}(h:vOk x=true):inA x.tok=true/\inA x.sh=true/\inA x.lost=true:=by
  unfold vOk at h;simp only[Bool.and_eq_true]at h;exact ⟨h.1.1.1.1,h.1.1.1.2,h.1.1.2⟩
theorem z7I{next:Int}:∀ {l:List Wt} {last:Int},wOk next last l=true->∀ x∈l,inA x.amt=true
  | [],_,_,x,hx=>by cases hx
  | y :: r,last,h,x,hx=>by
    rw[wOk,Bool.and_eq_true]at h
    rcases List.mem_cons.1 hx with rfl | hx
    · have:=h.1;unfold q0g at this;simp only[Bool.and_eq_true]at this;exact this.1.1.2
    · exact z7I h.2 x hx
theorem z5k(s:St)(ao:Option Addr)(sb so c:Nat)(w:World)(hW:z2h w ao sb so s.W) :
    Calls prog 100 #[.agg (stC s (.slice ao s.W.length c))] w fun e w'=>e=.returned (.bool (z0k s))/\Below w.heap.size w w':=by
  have S0:=SAt.new w (stC s (.slice ao s.W.length c));have HB0:Hid (Below w.heap.size w (w.alloc (.cells (stC s (.slice ao s.W.length c)) 43))):=znw w _;have HW:Hid (z2h w ao sb so s.W):=hW;have hlen:=hW.len;have hGB:=z0o s.b.f0 s.b.f1 s.b.f2 s.b.f3 s.b.bo s.b.wa s.b.bu;have hWG:=fun w h=>z9M s.W ao sb so c s.next w h
  have HG:Hid (z0k s=(z1t s.b.f0 s.b.f1 s.b.f2 s.b.f3 s.b.bo s.b.wa s.b.bu && decide (1<=s.next) && decide (s.next<=1125899906842624) && decide (s.W.length<=60) && wOk s.next 0 s.W && pvs s 6 && bal s)):=rfl
  have HT2:Hid (wOk s.next 0 s.W=true->∀ x∈s.W,inA x.amt=true):=z7I
  generalize z1t s.b.f0 s.b.f1 s.b.f2 s.b.f3 s.b.bo s.b.wa s.b.bu=t1 at *;generalize wOk s.next 0 s.W=t2 at *
  clear hW
  go_enter func100,ntmps100
  go_upto_region 1 with fail
  generalize w.alloc (.cells (stC s (.slice ao s.W.length c)) 43)=w0 at *;obtain ⟨x0,x1,x2,x3,x4,x5,x6,x7,x8⟩:=z0q S0
  go_wp2_with (first
    | (go_at_call 139;refine (hGB _).mono ?_;rintro e w1 ⟨rfl,h1⟩;have S1:=S0.later h1 S0.lt;have HB1:Hid (Below w.heap.size w w1):=zbt HB0.out h1;obtain ⟨y0,y1,y2,y3,y4,y5,y6,y7,y8⟩:=z0q S1;clear x0 x1 x2 x3 x4 x5 x6 x7 x8 y0 y1 y2 y3 y4 y5 y6 h1 S0 HB0)
    | (go_at_call 140;refine (hWG _ (by exact HW.out.over HB1.out)).mono ?_;rintro e w2 ⟨rfl,h2⟩;have HB2:Hid (Below w.heap.size w w2):=zbt HB1.out h2;have S2:=S1.later h2 S1.lt;clear h2 S1 y7 y8))
  all_goals first
    | (go_ret;first | (refine ⟨?_,HB2.out⟩;rw[HG.out];congr 1;congr 1;first | (simp_all;done) | (cases t2 <;> simp_all <;> omega) | (simp_all;omega) | (simp_all;intros;omega)) | (refine ⟨?_,HB1.out⟩;rw[HG.out];congr 1;congr 1;first | (simp_all;done) | (simp_all;omega) | (simp_all;intros;omega)))
    | skip
  have hl60:s.W.length<=60:=by omega
  have hg2:z0k s=(pvs s 6 && bal s):=by rw[HG.out];simp_all
  have HG2:Hid (z0k s=(pvs s 6 && bal s)):=hg2;have HA:Hid (∀ x∈s.W,inA x.amt=true):=HT2.out (by simp_all)
  have hbl:w.heap.size<w2.heap.size:=S2.lt;clear HG HT2 hGB hWG HB1;clear hg2;obtain rfl:t2=true:=by simp_all
  simp only[Bool.not_true,Bool.or_false]
  go_loopw [30] (fun i wl=>∃ k:Nat,k<=6/\i=.int .i64 (k:Int)/\Hid (pvs s k=true/\Below w2.heap.size w2 wl)) (fun i _=>(6 - intOf i).toNat)
  case atStart=>exact ⟨0,by omega,rfl,rfl,Below.refl _ _⟩
  case round =>
    obtain ⟨k,hk,rfl,HR⟩:=hrel;have HB3:Hid (Below w.heap.size w wr):=HB2.out.trans (HR.out.2.mono (Nat.le_of_lt hbl));have S3:=S2.later HR.out.2 hbl;clear S2
    by_cases hk6:k<6
    · obtain ⟨c0,c1,c2,c3,c4⟩:=S3.val k hk6
      have hkk:(k:Int)<6:=by omega
      have j1:=z5T w.heap.size (7+k * 5) (s.V k) wr c0 c1 c2 c3 c4;have j2:=z8l s (.slice ao s.W.length c) w.heap.size k hk6 wr S3;have HV:Hid (j3f s k=(vOk (s.V k) && q5o s.S k (s.V k).sh)):=rfl;generalize vOk (s.V k)=t3 at *;generalize q5o s.S k (s.V k).sh=t4 at *;clear c0 c1 c2 c3 c4 S3
      go_wp2_with (first
        | (go_at_call 141;refine j1.mono ?_;rintro e w4 ⟨rfl,rfl⟩)
        | (go_at_call 142;refine j2.mono ?_;rintro e w4 ⟨rfl,rfl⟩))
      all_goals first
        | (go_ret;refine ⟨?_,HB3.out⟩;rw[HG2.out,j2r hk6 (by rw[HV.out];simp_all)];rfl)
        | (go_roundw
           case rel =>
             have hp:pvs s (k+1)=true:=by rw[pvs,HR.out.1,HV.out];simp_all
             exact ⟨k+1,by omega,by go_num,hp,HR.out.2⟩
           case measure=>simp[intOf];omega)
    · obtain rfl:k=6:=by omega
      have hj:=z8e s ao sb so c w.heap.size wr S3 (HW.out.over HB3.out) hl60 (fun i hi=>by have h:=q2D HR.out.1 hi;rw[j3f,Bool.and_eq_true]at h;exact ⟨(z2a h.1).1,(z2a h.1).2.2⟩) HA.out
      have hg3:z0k s=bal s:=by rw[HG2.out,HR.out.1,Bool.true_and]
      have HG3:Hid (z0k s=bal s):=hg3;clear hg3;generalize bal s=t5 at *;clear S3
      go_wp2_with (go_at_call 143;refine hj.mono ?_;rintro e w5 ⟨rfl,h5⟩)
      go_ret;refine ⟨?_,zbt HB3.out h5⟩;rw[HG3.out];rfl
def pwL:List Pw->List Value
 | []=>[]
 | x :: r=>.int .i64 x.1 :: .int .i64 x.2 :: pwL r
theorem z8O:∀ (a b:List Pw),pwL (a ++ b)=pwL a ++ pwL b
 | [],_=>rfl
 | x :: r,b=>by simp only[List.cons_append,pwL,z8O r b]
theorem q6e:∀ (l:List Pw) (i:Nat) (x:Pw),l[i]?=some x->(pwL l)[i * 2]?=some (.int .i64 x.1)/\(pwL l)[i * 2+1]?=some (.int .i64 x.2)
 | [],i,x,h=>by simp at h
 | y :: r,0,x,h=>by simp at h;subst h;exact ⟨rfl,rfl⟩
 | y :: r,i+1,x,h=>by
  have:=q6e r i x (by simpa using h)
  rw[show (i+1) * 2=i * 2+1+1 by omega]
  simpa [pwL] using this
theorem q7z:(prog.info? 68).map (fun i=>(i.zero,i.size,i.bytes))=some (some (.agg #[.int .i64 0,.int .i64 0]),2,16):=by kernel_rfl
def z5E(w:World)(B:Nat)(v:Value)(l:List Pw):Prop:=w.ownsRow B 68 2 v l.length (pwL l)
theorem z5E.nil(w:World)(B:Nat):z5E w B (.slice none 0 0) []:=⟨rfl,.inl ⟨rfl,rfl⟩⟩
theorem z5E.row{w:World}{B:Nat}{v:Value}{l:List Pw}(h:z5E w B v l):(v=.slice none 0 0/\l=[])∨∃ g cap,v=.slice (some ⟨g,0,none⟩) l.length cap/\B<=g/\z1F w g l/\l.length<=cap/\cap<=maxLen:=by
 obtain ⟨_,h⟩:=h
 rcases h with ⟨h1,h2⟩ | ⟨g,cap,cur,h1,h2,h3,h4,h5,h6,h7⟩
 ·exact .inl ⟨h1,List.length_eq_zero_iff.1 h2⟩
 ·refine .inr ⟨g,cap,h1,h2,⟨cur,h3,fun i x hx=>?_⟩,h4,h5⟩;obtain ⟨g1,g2⟩:=q6e l i x hx;have hi:=(List.getElem?_eq_some_iff.1 hx).1;rw[← h7,List.getElem?_take_of_lt (by omega)]at g1 g2
  exact ⟨by simpa using g1,by simpa using g2⟩
def j8K(w:World)(B:Nat)(v:Value)(l:List Pw):Prop:=(v=.slice none 0 0/\l=[])∨∃ g cap,v=.slice (some ⟨g,0,none⟩) l.length cap/\B<=g/\z1F w g l/\l.length<=cap/\cap<=maxLen
theorem q1K(w:World)(a b:Int)(t:TypeId):∀ j u,([.int .i64 a,.int .i64 b]:List Value)[j]?=some u->(w.alloc (.cells #[.int .i64 a,.int .i64 b] t)).cell? ((⟨w.heap.size,0,none⟩:Addr).add j)=some u:=by
 intro j u hj
 rcases j with _ | _ | j
 ·simp at hj;subst hj;simp[Addr.add]
 ·simp at hj;subst hj;simp[Addr.add]
 ·simp at hj
theorem z5E.append{w:World}{B:Nat}{v:Value}{l:List Pw}{x:Pw}{n:Nat}(h:w.ownsRow B 68 2 v n (pwL l ++ [.int .i64 x.1,.int .i64 x.2]))(hn:n=l.length+1):z5E w B v (l ++ [x]):=by
 unfold z5E;rw[List.length_append,z8O];subst hn;exact h
theorem z5E.own{w:World}{B:Nat}{v:Value}{l:List Pw}(h:z5E w B v l):∀ k,v.ownBlock=some k->B<=k:=by
 intro k hk
 rcases h.row with ⟨rfl,_⟩ | ⟨g,cap,rfl,hg,_⟩
 ·simp[Value.ownBlock]at hk
 ·simp[Value.ownBlock]at hk;omega
theorem z5E.grow{w w1:World}{B C:Nat}{v:Value}{l:List Pw}{a:World}{o:Obj}(h:z5E w B v l)(hb:Below C a w)(hg:(w.alloc o).grownBy w1 v.ownBlock)(hB:C<=B)(hs:B<=w.heap.size):Below C a w1:=
 (hb.alloc (Nat.le_trans hB hs) o).grown hg (by simp;omega) (fun k hk=>Nat.le_trans hB (h.own k hk))
theorem q2k(fv:Value)(w:World):Calls prog 179 #[.slice none 0 0,.int .i64 0,.int .i64 0,fv] w fun e w'=>e=.returned (.tuple #[])/\w=w':=by
 go_enter func179,ntmps179
 go_wp2
 go_loop [8] (fun i=>i=.int .i64 1) (fun _=>0)
 case atStart=>rfl
 case round =>
  subst hrel;go_wp2;go_end0;exact ⟨rfl,rfl⟩
theorem q4p(fv:Value)(w:World):Calls prog 117 #[.slice none 0 0,fv] w fun e w'=>e=.returned (.tuple #[])/\w=w':=by
 have hL:=q0u 0 (by omega) w
 have hP:∀ k,Calls prog 158 #[.slice none 0 0,.int .i64 0,.int .i64 0,.int .i64 k,fv] w fun e w'=>e=.returned (.tuple #[])/\w=w':=by
  intro k;have hI:=q2k fv w
  go_enter func158,ntmps158
  go_wp2_with fail
  go_loopw [1,2] (fun a b wl=>a=.int .i64 0/\b=.int .i64 0/\Hid (wl=w)) (fun _ _ _=>0)
  case atStart=>exact ⟨rfl,rfl,rfl⟩
  case round =>
   obtain ⟨rfl,rfl,HW⟩:=hrel;have e:=HW.out;subst e;clear HW
   go_wp2_with (go_at_call 179;refine hI.mono ?_;rintro e w1 ⟨rfl,h1⟩;have H1:=hide h1;clear h1)
   exact bodyPost_ret (v:=.tuple #[]) (by simp[results,results158]) rfl ⟨rfl,H1.out⟩
 go_enter func117,ntmps117
 go_wp2_with (first
  | (go_at_call 159;refine hL.mono ?_;rintro e w1 ⟨⟨k,rfl⟩,rfl⟩)
  | (go_at_call 158;refine (hP _).mono ?_;rintro e w2 ⟨rfl,h1⟩;have H1:=hide h1;clear h1))
 go_end0;exact ⟨rfl,H1.out⟩
end
namespace Wd
open Go.ChangeShapes Go.WideShapes Go.ChangeAt Go.RowKit Go.Deep Pv
def ddL(x:Dd):List Value:=[.int .i64 x.k,.int .i64 x.c,.int .i64 x.d,.int .i64 x.v,.int .i64 x.n,.bool x.b,.bool x.f]
structure q2A(w:World)(ao:Option Addr)(b off:Nat)(l:List Dd):Prop where
 adr:0<l.length->ao=some ⟨b,off,none⟩
 len:l.length<=maxLen
 cell:∀ (i:Nat) (x:Dd),l[i]?=some x->w.rangeAt b (off+i * 7) (ddL x)
theorem q2A.lt{w:World}{ao:Option Addr}{b off:Nat}{l:List Dd}(h:q2A w ao b off l)(h0:0<l.length):b<w.heap.size:=
 World.block_lt_of_cell? w ⟨b,off+0 * 7+0,none⟩ (h.cell 0 l[0] (List.getElem?_eq_getElem h0) 0 _ rfl)
theorem q2A.over{w w':World}{B:Nat}{ao:Option Addr}{b off:Nat}{l:List Dd}(h:q2A w ao b off l)(hb:Below B w w')(hB:w.heap.size<=B):q2A w' ao b off l:=by
 refine ⟨h.adr,h.len,fun i x hx j v hv=>?_⟩;have h0:0<l.length:=by have:=(List.getElem?_eq_some_iff.1 hx).1;omega
 have:=h.lt h0;rw[hb.cell (p:=⟨b,off+i * 7+j,none⟩) (by show b<B;omega)]
 exact h.cell i x hx j v hv
theorem j2F:(prog.info? 29).map (·.size)=some 7:=by kernel_rfl
def z8I(v:Value):Sem Value:=Instr.loadAt 29 v
theorem z4d(v:Value):Instr.loadAt 29 v=z8I v:=rfl
theorem q2A.load{w:World}{ao:Option Addr}{b off:Nat}{l:List Dd}(h:q2A w ao b off l){i:Nat}{x:Dd}(hx:l[i]?=some x):(z8I (.pointer (some ⟨b,off+i * 7,none⟩))).run prog w=.ok (.agg (ddC x)) w:=
 run_loadAt_mid (P:=prog) w b (off+i * 7) 29 (ddL x) _ (h.cell i x hx) underlying29 rfl (by rw[j2F];rfl)
theorem j4D{β:Type}{p:Nat->β->Prop}(d:β){n:Nat}(h:∀ i,i<n->∃ y,p i y):∃ f:Nat->β,∀ i,i<n->p i (f i):=by
 refine ⟨fun i=>if hi:i<n then Classical.choose (h i hi) else d,fun i hi=>?_⟩;simp only[dif_pos hi];exact Classical.choose_spec (h i hi)
theorem cI':prog.cellsOf 3=1:=by kernel_rfl
theorem cT':prog.cellsOf 4=1:=by kernel_rfl
theorem cDd:prog.cellsOf 29=7:=by kernel_rfl
section
variable {H:Type} {enc:TypeId×Value->H} {W:World}
theorem j3S{m:Nat}{l:List Value}{y:DataW H×List MemPlace}(h:DataW.trod enc prog W 0 (fun _=>true) true m 29 l=some y):∃ x:Dd,l=ddL x:=by
 obtain ⟨xs,n,_,_,hl,hxl,hx⟩:=DataW.trod_struct underlying29 h;rw[cDd]at hl
 match l,hl with
 | [a0,a1,a2,a3,a4,a5,a6],_ =>
  match xs,hxl with
  | [y0,y1,y2,y3,y4,y5,y6],_ =>
   have t0:=hx 0 _ rfl;have t1:=hx 1 _ rfl;have t2:=hx 2 _ rfl;have t3:=hx 3 _ rfl;have t4:=hx 4 _ rfl;have t5:=hx 5 _ rfl;have t6:=hx 6 _ rfl
   simp[cI',cT']at t0 t1 t2 t3 t4 t5 t6
   obtain ⟨q0,e0,_⟩:=DataW.trod_int underlying3 t0;obtain ⟨q1,e1,_⟩:=DataW.trod_int underlying3 t1;obtain ⟨q2,e2,_⟩:=DataW.trod_int underlying3 t2;obtain ⟨q3,e3,_⟩:=DataW.trod_int underlying3 t3;obtain ⟨q4,e4,_⟩:=DataW.trod_int underlying3 t4;obtain ⟨q5,e5,_⟩:=DataW.trod_bool underlying4 t5;obtain ⟨q6,e6,_⟩:=DataW.trod_bool underlying4 t6
   simp at e0 e1 e2 e3 e4 e5 e6
   subst e0 e1 e2 e3 e4 e5 e6;exact ⟨⟨q0,q1,q2,q3,q4,q5,q6⟩,rfl⟩
theorem z4C{r:Reach}{b0:Nat}{v:Value}{d:DataW H}{p:List MemPlace}(hv:Value.okWide prog W r b0 22 v)(h:DataW.Trod enc prog W 0 (fun _=>true) true 22 v d p) :
  ∃ (l:List Dd) (ao:Option Addr) (c b off:Nat),v=.slice ao l.length c/\q2A W ao b off l/\(ao=none->c=0)/\l.length<=c:=by
 obtain ⟨a,len,cap,rfl⟩:=okWide_slice underlying22 hv;obtain ⟨fuel,hf⟩:=h
 rcases open_slice underlying22 hf with ⟨h0,_⟩ | ⟨a,len',cap',k,n,D,Pl,hcs,_,hlc,hmx,hk,hy,hx⟩
 ·simp[Value.cells]at h0
  obtain ⟨rfl,rfl,rfl⟩:=h0;exact ⟨[],none,0,0,0,rfl,⟨fun h=>absurd h (by simp),by simp,fun i x h=>by simp at h⟩,fun _=>rfl,Nat.le_refl _⟩
 simp[Value.cells]at hcs
 obtain ⟨rfl,rfl,rfl⟩:=hcs;simp only[if_true]at hk;subst hk;rw[cDd]at hx
 obtain ⟨g,hg⟩:=j4D (n:=k) (p:=fun i (x:Dd)=>W.cells? 0 (a.add (i * 7)) 7=some (ddL x)) ⟨0,0,0,0,0,false,false⟩ (fun i hi=>by
  obtain ⟨cs',h1,h2⟩:=hx i hi;obtain ⟨x,rfl⟩:=j3S h2
  exact ⟨x,h1⟩)
 have hlen:((List.range len).map g).length=len:=by simp
 by_cases h0:len=0
 ·subst h0;exact ⟨[],some a,k,0,0,rfl,⟨fun h=>absurd h (by simp),by simp,fun i x h=>by simp at h⟩,(fun h=>by cases h),Nat.zero_le _⟩
 have hcell:∀ i,i<k->∀ j v,(ddL (g i))[j]?=some v->W.cell? ((a.add (i * 7)).add j)=some v:=fun i hi j v hv=>by
  obtain ⟨_,hlen',hc⟩:=World.cells?_some (hg i hi);have hj:j<7:=by have:=(List.getElem?_eq_some_iff.1 hv).1;simpa [ddL] using this
  rw[hc j hj];exact hv
 obtain ⟨b,off,spot⟩:=a
 have hspot:spot=none:=by
  have:=hcell 0 (by omega) 0 _ rfl
  simpa [Addr.add] using World.cell?_spot this
 subst hspot;refine ⟨(List.range len).map g,some ⟨b,off,none⟩,k,b,off,by rw[hlen],⟨fun _=>rfl,by rw[hlen];omega,fun i x hi=>?_⟩,(fun h=>by cases h),by rw[hlen];omega⟩
 have hil:i<len:=by have:=(List.getElem?_eq_some_iff.1 hi).1;simpa using this
 obtain rfl:g i=x:=by simpa [hil] using hi
 have hc:=hcell i (by omega)
 simp only[Addr.add_lit]at hc;intro j v hv;exact hc j v hv
end
end Wd
end Go.Proofs.YtmopekkhmhhcaaaGreat
