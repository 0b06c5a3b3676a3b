/- Parts of the proof. -/
import Derived.Test.YtmopekkhmhhcaaaGreatFL
import Derived.Test.YtmopekkhmhhcaaaGreatFK19
import Derived.Test.YtmopekkhmhhcaaaGreatFK30
import Derived.ChangeAlike
set_option maxRecDepth 100000
set_option maxHeartbeats 16000000
namespace Go.Proofs.YtmopekkhmhhcaaaGreat
open Go.Proofs.Tryz
namespace Pv
open Go.RowKit
def z0I(P:Nat->Prop)(w:World)(v:Value)(sz bts:Nat)(cs:List Value):Prop:=∃ (A:Option Addr) (n C C':Nat),v=.slice A n C/\(A=none->C=0)/\Rep P w (.slice A n C') sz bts cs
section
variable {P P':Nat->Prop} {w w':World} {v:Value} {sz bts:Nat} {cs:List Value}
theorem Rep.c(h:Rep P w v sz bts cs):z0I P w v sz bts cs:=by
 obtain⟨A,n,C,rfl,h2⟩:=id h;exact⟨A,n,C,C,rfl,h2.2.2.1.1,h⟩
theorem z0I.nil(P:Nat->Prop)(w:World)(sz bts:Nat):z0I P w (.slice none 0 0) sz bts []:=(Rep.nil P w sz bts).c
theorem z0I.mono(h:z0I P w v sz bts cs)(hp:∀ b,b<w.heap.size->P b->P' b):z0I P' w v sz bts cs:=by
 obtain⟨A,n,C,C',h1,h2,h3⟩:=h;exact⟨A,n,C,C',h1,h2,h3.mono hp⟩
theorem z0I.keep(h:z0I P w v sz bts cs)(hk:∀ b,P b->b<w.heap.size->w'.heap[b]?=w.heap[b]?):z0I P w' v sz bts cs:=by
 obtain⟨A,n,C,C',h1,h2,h3⟩:=h;exact⟨A,n,C,C',h1,h2,h3.keep hk⟩
theorem z0I.over(h:z0I P w v sz bts cs)(hb:Below w.heap.size w w'):z0I P w' v sz bts cs:=h.keep fun b _ hlt=>hb.block b hlt
theorem z0I.one(h:z0I P w v sz bts cs):v.oneCell'=true:=by
 obtain⟨A,n,C,C',rfl,_⟩:=h;rfl
theorem z0I.line{x:Ln.Line}{v1 v2:Value}(h1:z0I P w v1 1 16 (txC x.S))(h2:z0I P w v2 1 8 (inC x.D)):∃ A1 C1 A2 C2 sb so db dO,v1=.slice A1 x.S.length C1/\v2=.slice A2 x.D.length C2/\Ln.LAt w x A1 A2 C1 C2 sb so db dO/\(0<x.S.length->P sb)/\(0<x.D.length->P db):=by
 obtain⟨A,n,C,C',rfl,n1,r1⟩:=h1;obtain⟨B,m,D,D',rfl,n2,r2⟩:=h2;obtain⟨A1,C1,A2,C2,sb,so,db,dO,e1,e2,L,p1,p2⟩:=Rep.line r1 r2;cases e1;cases e2;exact⟨_,_,_,_,sb,so,db,dO,rfl,rfl,⟨L.hls,L.hld,L.hsa,L.hda,n1,n2,L.PS,L.PD⟩,p1,p2⟩
theorem j5C{x:Ln.Line}{sa da:Option Addr}{cs cd sb so db dO:Nat}(L:Ln.LAt w x sa da cs cd sb so db dO)(hp:0<x.S.length->P sb):z0I P w (.slice sa x.S.length cs) 1 16 (txC x.S):=by
 refine⟨sa,x.S.length,cs,x.S.length,rfl,L.ncs,sa,x.S.length,x.S.length,rfl,z2c _,L.hls,⟨fun e=>?_,Nat.le_refl _⟩,fun h0=>⟨sb,so,L.hsa h0,hp h0,L.ltS h0,fun j u hu=>?_⟩⟩
 ·rcases Nat.eq_zero_or_pos x.S.length with h | h
  ·exact h
  ·rw[L.hsa h]at e;cases e
 ·have hj:j<x.S.length:=by have:=(List.getElem?_eq_some_iff.1 hu).1;rw[z2c]at this;omega
  rw[L.PS j hj,← hu,z7x _ j hj]
theorem j7r{x:Ln.Line}{sa da:Option Addr}{cs cd sb so db dO:Nat}(L:Ln.LAt w x sa da cs cd sb so db dO)(hp:0<x.D.length->P db):z0I P w (.slice da x.D.length cd) 1 8 (inC x.D):=by
 refine⟨da,x.D.length,cd,x.D.length,rfl,L.ncd,da,x.D.length,x.D.length,rfl,z0r _,L.hld,⟨fun e=>?_,Nat.le_refl _⟩,fun h0=>⟨db,dO,L.hda h0,hp h0,L.ltD h0,fun j u hu=>?_⟩⟩
 ·rcases Nat.eq_zero_or_pos x.D.length with h | h
  ·exact h
  ·rw[L.hda h]at e;cases e
 ·have hj:j<x.D.length:=by have:=(List.getElem?_eq_some_iff.1 hu).1;rw[z0r]at this;omega
  rw[L.PD j hj,← hu,z4J _ j hj]
end
def j9X(P:Nat->Prop)(w:World)(x:Ln.Line)(er:Int)(e:Ending)(w':World):Prop:=∃ u1 u2,e=.returned (.tuple #[.agg #[u1,u2,.int .i64 x.g,.bool x.cl],.int .i64 er])/\z0I (New P w 0) w' u1 1 16 (txC x.S)/\z0I (New P w 0) w' u2 1 8 (inC x.D)/\Below w.heap.size w w'
theorem j5g{P:Nat->Prop}{w w':World}{x y:Ln.Line}{er:Int}{e:Ending}{A1 A2:Option Addr}{C1 C2 sb so db dO:Nat}(L:Ln.LAt w x A1 A2 C1 C2 sb so db dO)(p1:0<x.S.length->P sb)(p2:0<x.D.length->P db)(h:Ln.Ans sb db x w (y,er) e w'):j9X P w y er e w':=by
 obtain⟨v,rfl,⟨sa,da,cs,cd,sb',so',db',dO',rfl,L',s1,s2⟩,hb⟩:=h;refine⟨_,_,rfl,j5C L' fun h0=>?_,j7r L' fun h0=>?_,hb⟩
 ·rcases (s1 h0).2 with⟨rfl,e⟩ | h
  ·rw[e]at h0;exact .inl ⟨p1 h0,L.ltS h0⟩
  ·exact .inr h
 ·rcases (s2 h0).2 with⟨rfl,e⟩ | h
  ·rw[e]at h0;exact .inl ⟨p2 h0,L.ltD h0⟩
  ·exact .inr h
theorem j0m(x:Ln.Line)(s:ByteArray)(due:Int)(v1 v2:Value)(P:Nat->Prop)(w:World)(h1:z0I P w v1 1 16 (txC x.S))(h2:z0I P w v2 1 8 (inC x.D)):Calls prog 123 #[.agg #[v1,v2,.int .i64 x.g,.bool x.cl],.string s,.int .i64 due] w (j9X P w (Ln.z5i x s due) (Ln.z5C x due)):=by
 obtain⟨A1,C1,A2,C2,sb,so,db,dO,rfl,rfl,L,p1,p2⟩:=z0I.line h1 h2;exact (Ln.j7f x A1 A2 C1 C2 sb so db dO s due w L).mono fun e w' h=>j5g L p1 p2 h
theorem q7W(x:Ln.Line)(v1 v2:Value)(P:Nat->Prop)(w:World)(h1:z0I P w v1 1 16 (txC x.S))(h2:z0I P w v2 1 8 (inC x.D)):Calls prog 145 #[.agg #[v1,v2,.int .i64 x.g,.bool x.cl]] w fun e w'=>e=.returned (.bool (Ln.z0T x))/\Below w.heap.size w w':=by
 obtain⟨A1,C1,A2,C2,sb,so,db,dO,rfl,rfl,L,-,-⟩:=z0I.line h1 h2;exact Ln.z0o x A1 A2 C1 C2 sb so db dO w L
end Pv
namespace Cd
open Go.RowKit
def bs(s:ByteArray):List Int:=s.data.toList.map fun u=>(u.toNat:Int)
theorem z2F(s:ByteArray):(bs s).length=s.size:=by simp[bs]
theorem z9P(s:ByteArray):∀ c∈bs s,0<=c/\c<256:=by
 intro c hc;obtain⟨u,_,rfl⟩:=List.mem_map.1 hc;have:=u.toNat_lt;omega
theorem j9a(s:ByteArray)(j:Nat)(h:j<s.size):(bs s).getD j 0=(s[j].toNat:Int):=by
 have h':j<s.data.size:=h;rw[bs,List.getD,List.getElem?_map,Array.getElem?_toList,Array.getElem?_eq_getElem h'];rfl
theorem z9a(s:ByteArray)(m:Nat):bs (s.extract m s.size)=(bs s).drop m:=by
 unfold bs;rw[ByteArray.data_extract,Array.toList_extract,List.extract_eq_take_drop,← List.map_drop]
 congr 1
 rw[List.take_of_length_le]
 simp
def TAt(w:World)(b:Nat)(r:ByteArray)(sh:Bool):Prop:=w.heap[b]?=some (.cells #[.string r,.bool sh] 104)
theorem TAt.cells{w:World}{b:Nat}{r:ByteArray}{sh:Bool}(h:TAt w b r sh):w.cell? ⟨b,0,none⟩=some (.string r)/\w.cell? ⟨b,1,none⟩=some (.bool sh)/\w.frozen? ⟨b,0,none⟩=false/\w.frozen? ⟨b,1,none⟩=false:=by
 unfold TAt at h
 simp[World.cell?,World.frozen?,h]
theorem TAt.set0{w:World}{b:Nat}{r:ByteArray}{sh:Bool}(h:TAt w b r sh)(r':ByteArray):TAt (w.setCell ⟨b,0,none⟩ (.string r')) b r' sh:=by
 unfold TAt at *
 simp[World.setCell,Array.getElem?_modify,h]
theorem TAt.set1{w:World}{b:Nat}{r:ByteArray}{sh:Bool}(h:TAt w b r sh)(s':Bool):TAt (w.setCell ⟨b,1,none⟩ (.bool s')) b r s':=by
 unfold TAt at *
 simp[World.setCell,Array.getElem?_modify,h]
theorem z3T(w:World)(b o:Nat)(v:Value):w.grownBy (w.setCell ⟨b,o,none⟩ v) (some b):=
 ⟨rfl,rfl,rfl,by simp[World.setCell],fun k _ hk=>Below.heap_setCell _ _ _ _ (fun e=>hk (by rw[e]))⟩
theorem z4W{w w1 w2:World}{r:Option Nat}(h:w.grownBy w1 r)(k:w1.grownBy w2 r):w.grownBy w2 r:=
 ⟨k.os.trans h.os,k.tape.trans h.tape,k.output.trans h.output,Nat.le_trans h.size k.size,fun i hi hne=>(k.block i (Nat.lt_of_lt_of_le hi h.size) hne).trans (h.block i hi hne)⟩
def tk(m:Nat)(st:List Int×Bool):Int×(List Int×Bool):=if st.1.length<m then (0,([],true)) else (z4x 0 (st.1.take m),(st.1.drop m,st.2))
def TS(w:World)(b:Nat)(st:List Int×Bool):Prop:=∃ r,TAt w b r st.2/\bs r=st.1/\r.size<=maxLen
theorem j6T{j:Nat}(h:j<=6):(2:Int) ^ (8 * j)<=281474976710656:=by
 match j,h with
 | 0,_=>decide
 | 1,_=>decide
 | 2,_=>decide
 | 3,_=>decide
 | 4,_=>decide
 | 5,_=>decide
 | 6,_=>decide
theorem size_ext(r:ByteArray)(j:Nat):(r.extract j r.size).size<=r.size:=by
 have h:=z9a r j;have h2:=congrArg List.length h;rw[z2F,List.length_drop,z2F]at h2;omega
theorem z9d:∀ (l:List Int) (acc:Int) (B:Nat),(∀ c∈l,0<=c/\c<256)->0<=acc->acc<2 ^ (8 * B)->0<=z4x acc l/\z4x acc l<2 ^ (8 * (B+l.length)):=by
 intro l
 induction l with
 | nil=>intro acc B _ h0 h1;exact⟨h0,by simpa [z4x] using h1⟩
 | cons c t ih =>
  intro acc B hc h0 h1;have hcc:=hc c (List.mem_cons_self ..);have h2:acc * 256+c<2 ^ (8 * (B+1)):=by rw[z8f];omega
  have:=ih (acc * 256+c) (B+1) (fun x hx=>hc x (List.mem_cons_of_mem _ hx)) (by omega) h2
  rw[show B+1+t.length=B+(c :: t).length by simp;omega]at this
  exact this
theorem q7T(l:List Int)(j:Nat)(h:j<l.length):z4x 0 (l.take (j+1))=z4x 0 (l.take j) * 256+l.getD j 0:=by
 rw[List.take_succ_eq_append_getElem h,z4x,List.foldl_append]
 simp[z4x,List.getD,h]
theorem j6w(q c:Int)(hq:0<=q)(hq2:q<281474976710656)(hc:0<=c)(hc2:c<256):bits BinOp.or IntKind.i64 (q * 256) (wrap64 c)=q * 256+c:=by
 have hw:wrap64 c=c:=by unfold wrap64;omega
 rw[hw];obtain⟨a,rfl⟩:=Int.eq_ofNat_of_zero_le hq;obtain⟨b,rfl⟩:=Int.eq_ofNat_of_zero_le hc
 have hor:a * 256 ||| b=a * 256+b:=by
  have:=Nat.two_pow_add_eq_or_of_lt (i:=8) (b:=b) (by omega) a
  rw[Nat.mul_comm a 256];exact this.symm
 have h1:(BitVec.ofInt 64 ((a * 256:Nat):Int)).toNat=a * 256:=by
  rw[BitVec.ofInt_natCast,BitVec.toNat_ofNat];exact Nat.mod_eq_of_lt (by omega)
 have h2:(BitVec.ofInt 64 (b:Int)).toNat=b:=by
  rw[BitVec.ofInt_natCast,BitVec.toNat_ofNat];exact Nat.mod_eq_of_lt (by omega)
 have e:(a:Int) * 256=((a * 256:Nat):Int):=by omega
 rw[e]
 show IntKind.i64.wrap ((BitVec.ofInt 64 ((a * 256:Nat):Int) ||| BitVec.ofInt 64 (b:Int)).toNat:Int)=_
 rw[BitVec.toNat_or,h1,h2,hor]
 simp[IntKind.wrap,IntKind.bits,IntKind.signed]
 omega
theorem q5h(b:Nat)(st:List Int×Bool)(m:Nat)(w:World)(hT:TS w b st)(hm:m<=7) :
  Calls prog 49 #[.pointer (some ⟨b,0,none⟩),.int .i64 m] w fun e w'=>e=.returned (.int .i64 (tk m st).1)/\TS w' b (tk m st).2/\w.grownBy w' (some b):=by
 obtain⟨r,hT,hl,hr⟩:=hT;obtain⟨l,sh⟩:=st;dsimp only at hT hl;subst hl;have hr':=hr;unfold maxLen at hr;obtain⟨c0,c1,f0,f1⟩:=hT.cells
 by_cases hlt:r.size<m
 ·have e:tk m (bs r,sh)=(0,([],true)):=by rw[tk,if_pos (by rw[z2F];exact hlt)]
  rw[e];have HT:Hid _:=(hT.set1 true).set0 ⟨#[]⟩;clear hT
  go_enter func49,ntmps49
  go_wp2;go_ret;exact⟨rfl,⟨⟨#[]⟩,HT.out,rfl,by decide⟩,z4W (z3T _ _ _ _) (z3T _ _ _ _)⟩
 ·have e:tk m (bs r,sh)=(z4x 0 ((bs r).take m),((bs r).drop m,sh)):=by rw[tk,if_neg (by rw[z2F];exact hlt)]
  rw[e];have HT:Hid _:=hT.set0 (r.extract m r.size);have HX:Hid _:=z9a r m;clear hT
  go_enter func49,ntmps49
  go_wp2
  go_loop [5,21] (fun n i=>∃ j:Nat,j<=m/\i=.int .i64 j/\n=.int .i64 (z4x 0 ((bs r).take j))) (fun _ i=>m - (intOf i).toNat)
  case atStart=>exact⟨0,Nat.zero_le _,rfl,by simp[z4x]⟩
  case round =>
   obtain⟨j,hj,rfl,rfl⟩:=hrel
   by_cases h:j<m
   ·have hjr:j<r.size:=by omega
    have hbd:=z9d ((bs r).take j) 0 0 (fun c hc=>z9P r c (List.mem_of_mem_take hc)) (by omega) (by omega)
    have hlj:((bs r).take j).length=j:=by rw[List.length_take,z2F];omega
    rw[hlj,Nat.zero_add]at hbd;have hb1:0<=z4x 0 ((bs r).take j):=hbd.1
    have hb2:z4x 0 ((bs r).take j)<281474976710656:=by
     have hp:(2:Int) ^ (8 * j)<=281474976710656:=j6T (by omega)
     have:=hbd.2;omega
    have hcb:=r[j].toNat_lt
    have HN:Hid (z4x 0 ((bs r).take (j+1))=z4x 0 ((bs r).take j) * 256+(r[j].toNat:Int)):=by
     show _=_
     rw[q7T _ _ (by rw[z2F];exact hjr),j9a r j hjr]
    clear hbd hlj;generalize z4x 0 ((bs r).take j)=q at *;have HO:Hid _:=j6w q (r[j].toNat:Int) hb1 hb2 (by omega) (by omega)
    clear hcb;go_wp2
    go_round
    case rel=>exact⟨j+1,by omega,by go_num,by rw[HO.out,HN.out]⟩
    case measure=>simp[intOf];omega
   ·have hjm:j=m:=by omega
    subst hjm;go_wp2;go_ret;exact⟨rfl,⟨_,HT.out,HX.out,Nat.le_trans (size_ext r j) hr'⟩,z3T _ _ _ _⟩
end Cd
section
open Go.RowKit
theorem j4C{s:St}:∀ {n k:Nat},k<n->j4E s k=false->pvs s n=false
  | 0,_,h,_=>by omega
  | n+1,k,h,hk=>by
    rw[pvs]
    rcases (show k<n∨k=n by omega) with h' | rfl
    · rw[j4C h' hk,Bool.false_and]
    · rw[hk,Bool.and_false]
theorem q3I{s:St}:∀ {n k:Nat},pvs s n=true->k<n->j4E s k=true
  | 0,_,_,h=>by omega
  | n+1,k,h,hk=>by
    rw[pvs,Bool.and_eq_true]at h
    rcases (show k<n∨k=n by omega) with h' | rfl
    · exact q3I h.1 h'
    · exact h.2
theorem z2s{x:Vd}(h:vOk x=true):inA x.tok=true/\inA x.sh=true/\inA x.lost=true:=by
  unfold vOk at h;simp only[Bool.and_eq_true]at h;exact⟨h.1.1.1.1,h.1.1.1.2,h.1.1.2⟩
theorem z8p{next:Int}:∀ {l:List Wt} {last:Int},wOk next last l=true->∀ x∈l,inA x.amt=true
  | [],_,_,x,hx=>by cases hx
  | y :: r,last,h,x,hx=>by
    rw[wOk,Bool.and_eq_true]at h
    rcases List.mem_cons.1 hx with rfl | hx
    · have:=h.1;unfold q0W at this;simp only[Bool.and_eq_true]at this;exact this.1.1.2
    · exact z8p h.2 x hx
theorem z7J(s:St)(ao:Option Addr)(sb so c:Nat)(w:World)(hW:z2A w ao sb so s.W) :
    Calls prog 100 #[.agg (stC s (.slice ao s.W.length c))] w fun e w'=>e=.returned (.bool (z0i s))/\Below w.heap.size w w':=by
  have S0:=SAt.new w (stC s (.slice ao s.W.length c));have HB0:Hid (Below w.heap.size w (w.alloc (.cells (stC s (.slice ao s.W.length c)) 43))):=znw w _;have HW:Hid (z2A w ao sb so s.W):=hW;have hlen:=hW.len;have hGB:=z0o s.b.f0 s.b.f1 s.b.f2 s.b.f3 s.b.bo s.b.wa s.b.bu;have hWG:=fun w h=>z9L s.W ao sb so c s.next w h
  have HG:Hid (z0i s=(z1z s.b.f0 s.b.f1 s.b.f2 s.b.f3 s.b.bo s.b.wa s.b.bu && decide (1<=s.next) && decide (s.next<=1125899906842624) && decide (s.W.length<=60) && wOk s.next 0 s.W && pvs s 6 && bal s)):=rfl
  have HT2:Hid (wOk s.next 0 s.W=true->∀ x∈s.W,inA x.amt=true):=z8p
  generalize z1z s.b.f0 s.b.f1 s.b.f2 s.b.f3 s.b.bo s.b.wa s.b.bu=t1 at *;generalize wOk s.next 0 s.W=t2 at *
  clear hW
  go_enter func100,ntmps100
  go_upto_region 1 with fail
  generalize w.alloc (.cells (stC s (.slice ao s.W.length c)) 43)=w0 at *;obtain⟨x0,x1,x2,x3,x4,x5,x6,x7,x8⟩:=z0t S0
  go_wp2_with (first
    | (go_at_call 139;refine (hGB _).mono ?_;rintro e w1⟨rfl,h1⟩;have S1:=S0.later h1 S0.lt;have HB1:Hid (Below w.heap.size w w1):=zbt HB0.out h1;obtain⟨y0,y1,y2,y3,y4,y5,y6,y7,y8⟩:=z0t S1;clear x0 x1 x2 x3 x4 x5 x6 x7 x8 y0 y1 y2 y3 y4 y5 y6 h1 S0 HB0)
    | (go_at_call 140;refine (hWG _ (by exact HW.out.over HB1.out)).mono ?_;rintro e w2⟨rfl,h2⟩;have HB2:Hid (Below w.heap.size w w2):=zbt HB1.out h2;have S2:=S1.later h2 S1.lt;clear h2 S1 y7 y8))
  all_goals first
    | (go_ret;first | (refine⟨?_,HB2.out⟩;rw[HG.out];congr 1;congr 1;first | (simp_all;done) | (cases t2 <;> simp_all <;> omega) | (simp_all;omega) | (simp_all;intros;omega)) | (refine⟨?_,HB1.out⟩;rw[HG.out];congr 1;congr 1;first | (simp_all;done) | (simp_all;omega) | (simp_all;intros;omega)))
    | skip
  have hl60:s.W.length<=60:=by omega
  have hg2:z0i s=(pvs s 6 && bal s):=by rw[HG.out];simp_all
  have HG2:Hid (z0i s=(pvs s 6 && bal s)):=hg2;have HA:Hid (∀ x∈s.W,inA x.amt=true):=HT2.out (by simp_all)
  have hbl:w.heap.size<w2.heap.size:=S2.lt;clear HG HT2 hGB hWG HB1;clear hg2;obtain rfl:t2=true:=by simp_all
  simp only[Bool.not_true,Bool.or_false]
  go_loopw [30] (fun i wl=>∃ k:Nat,k<=6/\i=.int .i64 (k:Int)/\Hid (pvs s k=true/\Below w2.heap.size w2 wl)) (fun i _=>(6 - intOf i).toNat)
  case atStart=>exact⟨0,by omega,rfl,rfl,Below.refl _ _⟩
  case round =>
    obtain⟨k,hk,rfl,HR⟩:=hrel;have HB3:Hid (Below w.heap.size w wr):=HB2.out.trans (HR.out.2.mono (Nat.le_of_lt hbl));have S3:=S2.later HR.out.2 hbl;clear S2
    by_cases hk6:k<6
    · obtain⟨c0,c1,c2,c3,c4⟩:=S3.val k hk6
      have hkk:(k:Int)<6:=by omega
      have j1:=z6K w.heap.size (7+k * 5) (s.V k) wr c0 c1 c2 c3 c4;have j2:=z8Q s (.slice ao s.W.length c) w.heap.size k hk6 wr S3;have HV:Hid (j4E s k=(vOk (s.V k) && q6I s.S k (s.V k).sh)):=rfl;generalize vOk (s.V k)=t3 at *;generalize q6I s.S k (s.V k).sh=t4 at *;clear c0 c1 c2 c3 c4 S3
      go_wp2_with (first
        | (go_at_call 141;refine j1.mono ?_;rintro e w4⟨rfl,rfl⟩)
        | (go_at_call 142;refine j2.mono ?_;rintro e w4⟨rfl,rfl⟩))
      all_goals first
        | (go_ret;refine⟨?_,HB3.out⟩;rw[HG2.out,j4C hk6 (by rw[HV.out];simp_all)];rfl)
        | (go_roundw
           case rel =>
             have hp:pvs s (k+1)=true:=by rw[pvs,HR.out.1,HV.out];simp_all
             exact⟨k+1,by omega,by go_num,hp,HR.out.2⟩
           case measure=>simp[intOf];omega)
    · obtain rfl:k=6:=by omega
      have hj:=z8I s ao sb so c w.heap.size wr S3 (HW.out.over HB3.out) hl60 (fun i hi=>by have h:=q3I HR.out.1 hi;rw[j4E,Bool.and_eq_true]at h;exact⟨(z2s h.1).1,(z2s h.1).2.2⟩) HA.out
      have hg3:z0i s=bal s:=by rw[HG2.out,HR.out.1,Bool.true_and]
      have HG3:Hid (z0i s=bal s):=hg3;clear hg3;generalize bal s=t5 at *;clear S3
      go_wp2_with (go_at_call 143;refine hj.mono ?_;rintro e w5⟨rfl,h5⟩)
      go_ret;refine⟨?_,zbt HB3.out h5⟩;rw[HG3.out];rfl
theorem z1T(s:St)(ao:Option Addr)(sb so c b:Nat)(v:Int)(w:World)(h:SAt w b (stC s (.slice ao s.W.length c)))(hW:z2A w ao sb so s.W) :
  Calls prog 79 #[.pointer (some ⟨b,0,none⟩),.int .i64 v] w fun e w'=>e=.returned (.int .i64 (z6x s v))/\Below w.heap.size w w':=by
 have hrg:=h.range;have hG:=z7J s ao sb so c w hW;have hV:=z7M v;unfold z6x;generalize z0i s=t1 at *;generalize isV v=t2 at *;clear h hW
 go_enter func79,ntmps79
 go_upto_region 1 with fail
 apply wp_region_lit
 iterate 6 go_step
 refine wpList_load_mid rfl 43 _ rfl b 0 rfl _ _ hrg underlying43 rfl (by rw[z0y];rfl) ?_
 clear hrg
 go_wp2_with (first
  | (go_at_call 100;refine hG.mono ?_;rintro e w1⟨rfl,hB⟩)
  | (go_at_call 48;refine (hV _).mono ?_;rintro e w2⟨rfl,rfl⟩))
 all_goals (go_ret;refine⟨?_,hB⟩;first | (simp_all;done) | (congr 1;congr 1;simp_all))
theorem z2C(s:St)(ao:Option Addr)(sb so c b:Nat)(d v:Int)(w:World)(h:SAt w b (stC s (.slice ao s.W.length c)))(hW:z2A w ao sb so s.W) :
  Calls prog 104 #[.pointer (some ⟨b,0,none⟩),.int .i64 d,.int .i64 v] w fun e w'=>e=.returned (.int .i64 (z0U s d v))/\Below w.heap.size w w':=by
 have hG:=z1T s ao sb so c b v w h hW;have hV:=z9D d;unfold z0U;generalize z6x s v=t1 at *;generalize isD d=t2 at *;clear h hW
 go_enter func104,ntmps104
 go_wp2_with (first
  | (go_at_call 79;refine hG.mono ?_;rintro e w1⟨rfl,hB⟩)
  | (go_at_call 146;refine (hV _).mono ?_;rintro e w2⟨rfl,rfl⟩))
 all_goals (go_ret;refine⟨?_,hB⟩;first | (simp_all;done) | (congr 1;congr 1;simp_all))
structure But(b:Nat)(w w':World):Prop where
 os:w'.os=w.os
 tape:w'.tape=w.tape
 output:w'.output=w.output
 size:w'.heap.size=w.heap.size
 block:∀ k,k≠b->w'.heap[k]?=w.heap[k]?
theorem But.refl(b:Nat)(w:World):But b w w:=⟨rfl,rfl,rfl,rfl,fun _ _=>rfl⟩
theorem But.set{b:Nat}{w w':World}(h:But b w w')(o:Nat)(v:Value):But b w (w'.setCell ⟨b,o,none⟩ v):=
 ⟨h.os,h.tape,h.output,(by simp[World.setCell];exact h.size),fun k hk=>(Below.heap_setCell _ _ _ _ hk).trans (h.block k hk)⟩
theorem But.below{b B:Nat}{w w':World}(h:But b w w')(hB:B<=b):Below B w w':=⟨h.os,h.tape,h.output,by rw[h.size];exact Nat.le_refl _,fun k hk=>h.block k (by omega)⟩
theorem But.z1l{b c:Nat}{w w':World}{cs:Array Value}(h:But b w w')(hc:c≠b)(S:SAt w c cs):SAt w' c cs:=(h.block c hc).trans S
theorem q8e(s:St)(sl:Value)(v:Nat)(hv:v<6)(x:Int):(stC s sl).setIfInBounds (7+v * 5) (.int .i64 x)=stC { s with V:=z1P s.V v { s.V v with tok:=x } } sl:=by
 rcases (show v=0∨v=1∨v=2∨v=3∨v=4∨v=5 by omega) with rfl | rfl | rfl | rfl | rfl | rfl <;> rfl
theorem j9O(s:St)(sl:Value)(v:Nat)(hv:v<6)(x:Int):(stC s sl).setIfInBounds (7+v * 5+1) (.int .i64 x)=stC { s with V:=z1P s.V v { s.V v with sh:=x } } sl:=by
 rcases (show v=0∨v=1∨v=2∨v=3∨v=4∨v=5 by omega) with rfl | rfl | rfl | rfl | rfl | rfl <;> rfl
theorem j3r(s:St)(sl:Value)(v:Nat)(hv:v<6)(x:Int):(stC s sl).setIfInBounds (7+v * 5+2) (.int .i64 x)=stC { s with V:=z1P s.V v { s.V v with lost:=x } } sl:=by
 rcases (show v=0∨v=1∨v=2∨v=3∨v=4∨v=5 by omega) with rfl | rfl | rfl | rfl | rfl | rfl <;> rfl
theorem j2v(s:St)(sl:Value)(v:Nat)(hv:v<6)(x:Bool):(stC s sl).setIfInBounds (7+v * 5+3) (.bool x)=stC { s with V:=z1P s.V v { s.V v with jail:=x } } sl:=by
 rcases (show v=0∨v=1∨v=2∨v=3∨v=4∨v=5 by omega) with rfl | rfl | rfl | rfl | rfl | rfl <;> rfl
theorem j1v(s:St)(sl:Value)(v:Nat)(hv:v<6)(x:Bool):(stC s sl).setIfInBounds (7+v * 5+4) (.bool x)=stC { s with V:=z1P s.V v { s.V v with dead:=x } } sl:=by
 rcases (show v=0∨v=1∨v=2∨v=3∨v=4∨v=5 by omega) with rfl | rfl | rfl | rfl | rfl | rfl <;> rfl
theorem j4R(s:St)(sl:Value)(d v:Nat)(hd:d<4)(hv:v<6)(x:Int):(stC s sl).setIfInBounds (37+d * 6+v) (.int .i64 x)=stC { s with S:=z6q s.S d v x } sl:=by
 rcases (show d=0∨d=1∨d=2∨d=3 by omega) with rfl | rfl | rfl | rfl <;> rcases (show v=0∨v=1∨v=2∨v=3∨v=4∨v=5 by omega) with rfl | rfl | rfl | rfl | rfl | rfl <;> rfl
theorem j2F(s:St)(sl:Value)(x:Int):(stC s sl).setIfInBounds 62 (.int .i64 x)=stC { s with next:=x } sl:=rfl
theorem q0X(s:St)(sl sl':Value):(stC s sl).setIfInBounds 61 sl'=stC s sl':=rfl
theorem q0L(V:Nat->Vd)(v:Nat)(x y:Vd):z1P (z1P V v x) v y=z1P V v y:=by funext i;unfold z1P;split <;> rfl
theorem z6z(V:Nat->Vd)(v:Nat)(x:Vd):z1P V v x v=x:=if_pos rfl
theorem add_eq(s:St)(d v:Nat)(t n:Int):q3u s d v t n={ ({ ({ s with V:=z1P s.V v { s.V v with tok:=(s.V v).tok+t } }:St) with V:=z1P (z1P s.V v { s.V v with tok:=(s.V v).tok+t }) v { (z1P s.V v { s.V v with tok:=(s.V v).tok+t }) v with sh:=(s.V v).sh+n } }:St) with S:=z6q s.S d v (s.S d v+n) }:=by
 unfold q3u;rw[q0L,z6z]
theorem q7r(b:Nat)(w:World)(n:Nat):But b w (w.drewN n):=⟨rfl,rfl,rfl,rfl,fun _ _=>rfl⟩
theorem q3Q(s:St)(sl:Value)(b d v:Nat)(t n:Int)(w:World)(h:SAt w b (stC s sl))(hd:d<4)(hv:v<6)
  (h1:-4611686018427387904<=(s.V v).tok+t/\(s.V v).tok+t<=4611686018427387904) (h2:-4611686018427387904<=(s.V v).sh+n/\(s.V v).sh+n<=4611686018427387904) (h3:-4611686018427387904<=s.S d v+n/\s.S d v+n<=4611686018427387904) :
  Calls prog 108 #[.pointer (some ⟨b,0,none⟩),.int .i64 (d:Int),.int .i64 (v:Int),.int .i64 t,.int .i64 n] w fun e w'=>e=.returned (.tuple #[])/\SAt w' b (stC (q3u s d v t n) sl)/\But b w w':=by
 have hd':(d:Int)<4:=by omega
 have hv':(v:Int)<6:=by omega
 have hd0:(0:Int)<=(d:Int):=by omega
 have hv0:(0:Int)<=(v:Int):=by omega
 go_enter func108,ntmps108
 go_upto_region 0 with fail
 go_quiet (fail);have S0:SAt (w.drewN nq) b (stC s sl):=h;have HB0:Hid (But b w (w.drewN nq)):=q7r b w nq;generalize w.drewN nq=w0 at *;obtain⟨c0,c1,c2,c3,c4⟩:=S0.val v hv;have f0:=S0.free (7+v * 5)
 go_upto_region 2 with fail
 have S1:=S0.set (7+v * 5) (.int .i64 ((s.V v).tok+t));rw[q8e s sl v hv]at S1;have HB1:Hid (But b w (w0.setCell ⟨b,7+v * 5,none⟩ (.int .i64 ((s.V v).tok+t)))):=HB0.out.set _ _;generalize w0.setCell ⟨b,7+v * 5,none⟩ (.int .i64 ((s.V v).tok+t))=w1 at *;clear c0 c1 c2 c3 c4 f0 S0 HB0 h;obtain⟨c0,c1,c2,c3,c4⟩:=S1.val v hv;simp only[z6z]at c1;have f0:=S1.free (7+v * 5+1)
 go_upto_region 3 with fail
 have S2:=S1.set (7+v * 5+1) (.int .i64 ((s.V v).sh+n));rw[j9O _ sl v hv]at S2;have HB2:Hid (But b w (w1.setCell ⟨b,7+v * 5+1,none⟩ (.int .i64 ((s.V v).sh+n)))):=HB1.out.set _ _;generalize w1.setCell ⟨b,7+v * 5+1,none⟩ (.int .i64 ((s.V v).sh+n))=w2 at *;clear c0 c1 c2 c3 c4 f0 S1 HB1;have c0:=S2.shr d v hd hv;have f0:=S2.free (37+d * 6+v);have S3:=S2.set (37+d * 6+v) (.int .i64 (s.S d v+n));rw[j4R _ sl d v hd hv]at S3;have HS3:Hid (SAt (w2.setCell ⟨b,37+d * 6+v,none⟩ (.int .i64 (s.S d v+n))) b (stC (q3u s d v t n) sl)):=by rw[add_eq];exact S3
 clear S2 S3;go_wp2;go_end0;exact⟨rfl,HS3.out,HB2.out.set _ _⟩
def pwr(x:Vd):Int:=x.tok / 100
def z5f(V:Nat->Vd):Nat->List Pw
 | 0=>[]
 | k+1=>if (decide (0<pwr (V k)) && !(V k).jail)=true then z5f V k ++ [((k:Int),pwr (V k))] else z5f V k
def z8v(V:Nat->Vd):List Pw:=z2G ltV ((z2G ltP (z5f V 6)).take 4)
theorem z5t(V:Nat->Vd):∀ k,(z5f V k).length<=k
 | 0=>by simp[z5f]
 | k+1=>by
  have:=z5t V k;rw[z5f]
  split
  ·simp;omega
  ·omega
theorem z2z(lt:Pw->Pw->Bool)(l:List Pw):(z2G lt l).length=l.length:=z2a _ _ _
theorem z1V.take{w:World}{g:Nat}{l:List Pw}(h:z1V w g l)(n:Nat):z1V w g (l.take n):=by
 obtain⟨cur,hc,hx⟩:=h;exact⟨cur,hc,fun i x hi=>hx i x (by rw[List.getElem?_take]at hi;split at hi;exact hi;simp at hi)⟩
theorem j3l(s:St)(sl:Value)(w:World)(hV:∀ k,k<6->inA (s.V k).tok=true) :
  Calls prog 85 #[.agg (stC s sl)] w fun e w'=>∃ v,e=.returned v/\y0Z w' w.heap.size v (z8v s.V)/\Below w.heap.size w w':=by
 obtain⟨i0,hi,hz0,hz1,hz2⟩:=info_parts q7j;have S0:=SAt.new w (stC s sl);have HB0:Hid (Below w.heap.size w (w.alloc (.cells (stC s sl) 43))):=znw w _
 go_enter func85,ntmps85
 go_upto_region 1 with fail
 generalize w.alloc (.cells (stC s sl) 43)=w0 at *;have hz:w.heap.size<w0.heap.size:=S0.lt
 go_wp2_with fail
 go_loopw [3,7] (fun v i wl=>∃ k:Nat,k<=6/\i=.int .i64 (k:Int)/\z6h wl w0.heap.size v (z5f s.V k)/\Hid (Below w0.heap.size w0 wl)) (fun _ i _=>(6 - intOf i).toNat)
 case atStart=>exact⟨0,by omega,rfl,z6h.nil _ _,Below.refl _ _⟩
 case round =>
  obtain⟨k,hk,rfl,hown,HB⟩:=hrel;have hsz:w0.heap.size<=wr.heap.size:=HB.out.size
  by_cases hk6:k<6
  ·have S1:=S0.later HB.out hz;obtain⟨c0,c1,c2,c3,c4⟩:=S1.val k hk6;have hkk:(k:Int)<6:=by omega
   have hta:=z0D.1 (hV k hk6);have HC:Hid (z5f s.V (k+1)=if (decide (0<pwr (s.V k)) && !(s.V k).jail)=true then z5f s.V k ++ [((k:Int),pwr (s.V k))] else z5f s.V k):=rfl;have hlen:=z5t s.V k;have hp:pwr (s.V k)=(s.V k).tok / 100:=rfl;rw[hp]at HC;clear c1 c2 c4 S1 hp;generalize (s.V k).jail=jj at *;generalize (s.V k).tok=tt at *
   go_wp2_with (at_builtin;refine wpList_append_own_at _ rfl _ _ 44 rfl w0.heap.size 68 i0 (.agg #[.int .i64 0,.int .i64 0]) 2 16 underlying44 hi hz0 hz1 hz2 rfl (by decide) _ _ _ rfl (World.ownsRow.alloc hown _) ⟨wr.heap.size,0,none⟩ 1 1 [.int .i64 (k:Int),.int .i64 (tt / 100)] rfl rfl (q2B _ _ _ _) (by intro u hu;simp at hu;rcases hu with rfl | rfl <;> rfl) (by unfold maxLen;omega) (by omega) (by simp;omega) ?_;intro v' w1 hown' hgrow _ hat)
   ·have hb:Below w0.heap.size w0 w1:=z6h.grow hown HB.out hgrow (Nat.le_refl _) hsz;have hc:z5f s.V (k+1)=z5f s.V k ++ [((k:Int),tt / 100)]:=by rw[HC.out,if_pos (by simp_all)]
    refine⟨⟨k+1,by omega,by go_num,?_,hb⟩,by simp[intOf];omega⟩
    rw[hc];exact z6h.append hown' rfl
   ·have hc:z5f s.V (k+1)=z5f s.V k:=by rw[HC.out,if_neg (by simp_all)]
    exact⟨⟨k+1,by omega,by go_num,by rw[hc];exact hown,HB.out⟩,by simp[intOf];omega⟩
   ·have hc:z5f s.V (k+1)=z5f s.V k:=by rw[HC.out,if_neg (by simp;intro h;omega)]
    exact⟨⟨k+1,by omega,by go_num,by rw[hc];exact hown,HB.out⟩,by simp[intOf];omega⟩
  ·obtain rfl:k=6:=by omega
   have HBw:Hid (Below w.heap.size w wr):=HB0.out.trans (HB.out.mono (Nat.le_of_lt hz));have hl6:=z5t s.V 6;have HX:Hid (z8v s.V=z2G ltV ((z2G ltP (z5f s.V 6)).take 4)):=rfl
   rcases hown.row with⟨rfl,hnil⟩ | ⟨g,cap,rfl,hg,hrow,hcap,hmax⟩
   ·have HX2:Hid (z8v s.V=[]):=by rw[HX.out,hnil];rfl
    clear hnil hown HX S0 hV
    go_wp2_with (go_at_call 117;refine (q5G _ _).mono ?_;rintro e w1⟨rfl,rfl⟩)
    go_ret;exact⟨_,rfl,.inl ⟨rfl,HX2.out⟩,HBw.out⟩
   ·have hP:=j6s g cap (z5f s.V 6) wr hrow (by omega)
    rw[← z2z ltP (z5f s.V 6)]at hl6 hcap hP ⊢;have hL0:=hP;clear hrow hown S0 hV hL0;generalize z2G ltP (z5f s.V 6)=L at *;unfold maxLen at hmax;have hi0:(0:Int)<=(L.length:Int):=by omega
    have hi1:(L.length:Int)<=(cap:Int):=by omega
    by_cases h4:L.length<=4
    ·have h4':(L.length:Int)<=4:=by omega
     have HX2:Hid (z8v s.V=z2G ltV L):=by rw[HX.out,List.take_of_length_le h4];exact rfl
     go_wp2_with (first
      | (go_at_call 117;have _m:=m1;refine (q9P g cap L _ (by exact HR1.out.1) (by omega)).mono ?_;rintro e w2⟨rfl,hr2⟩;have HR2:=hide hr2;clear hr2)
      | (go_at_call 117;refine hP.mono ?_;rintro e w1⟨rfl,hr1⟩;have HR1:=hide hr1;clear hr1;have m1:True:=trivial))
     go_ret;have hsz1:=HR1.out.2.size;refine⟨_,rfl,.inr ⟨g,cap,?_,by omega,by rw[HX2.out];exact HR2.out.1,by rw[HX2.out,z2z];exact hcap,by unfold maxLen;exact hmax⟩,?_⟩
     ·rw[HX2.out,z2z];rfl
     ·exact (HBw.out.trans (HR1.out.2.below (B:=w.heap.size) (by omega) (by omega))).trans (HR2.out.2.below (by omega) (by omega))
    ·have h4':4<(L.length:Int):=by omega
     have hl4:(L.take 4).length=4:=by rw[List.length_take];omega
     have hS:=fun w h=>q9P g cap (L.take 4) w h (by omega)
     rw[hl4]at hS;have hc4:(4:Int)<=(cap:Int):=by omega
     go_wp2_with (first
      | (go_at_call 117;have _m:=m1;refine (hS _ (by exact HR1.out.1.take 4)).mono ?_;rintro e w2⟨rfl,hr2⟩;have HR2:=hide hr2;clear hr2)
      | (go_at_call 117;refine hP.mono ?_;rintro e w1⟨rfl,hr1⟩;have HR1:=hide hr1;clear hr1;have m1:True:=trivial))
     go_ret;have hsz1:=HR1.out.2.size;refine⟨_,rfl,.inr ⟨g,cap,?_,by omega,by rw[HX.out];exact HR2.out.1,by rw[HX.out,z2z,hl4];omega,by unfold maxLen;exact hmax⟩,?_⟩
     ·rw[HX.out,z2z,hl4];rfl
     ·exact (HBw.out.trans (HR1.out.2.below (B:=w.heap.size) (by omega) (by omega))).trans (HR2.out.2.below (by omega) (by omega))
theorem j6o(w:World):Calls prog 55 #[] w fun e w'=>e=.returned (.agg #[.int .i64 100000,.int .i64 100000,.int .i64 100000,.int .i64 100000,.int .i64 0,.int .i64 0,.int .i64 0])/\Below w.heap.size w w':=by
 go_enter func55,ntmps55
 go_wp2;refine wp_loop_rounds 5 ?_
 iterate 5 (try (rw[rounds_succ];go_wp2))
 exact bodyPost_ret (v:=.agg #[.int .i64 100000,.int .i64 100000,.int .i64 100000,.int .i64 100000,.int .i64 0,.int .i64 0,.int .i64 0]) (by simp[results,results55,go_sem]) rfl ⟨rfl,(znw w _).alloc (by simp) _⟩
end
namespace Df
open Go.RowKit
def QAt(w:World)(b:Nat)(P:Nat->Int):Prop:=w.heap[b]?=some (.cells #[.int .i64 (P 0),.int .i64 (P 1),.int .i64 (P 2),.int .i64 (P 3),.int .i64 (P 4),.int .i64 (P 5)] 39)
section
variable {w w':World} {b B:Nat} {P:Nat->Int}
theorem QAt.later(h:QAt w b P)(hb:Below B w w')(hB:b<B):QAt w' b P:=(hb.block b hB).trans h
theorem QAt.new(w:World)(P:Nat->Int):QAt (w.alloc (.cells #[.int .i64 (P 0),.int .i64 (P 1),.int .i64 (P 2),.int .i64 (P 3),.int .i64 (P 4),.int .i64 (P 5)] 39)) w.heap.size P:=heap_alloc_new _ _
theorem QAt.lt(h:QAt w b P):b<w.heap.size:=(Array.getElem?_eq_some_iff.1 h).1
theorem QAt.alloc(h:QAt w b P)(o:Obj):QAt (w.alloc o) b P:=(Below.heap_alloc _ _ _ h.lt).trans h
theorem QAt.facts(h:QAt w b P):(w.cell? ⟨b,0,none⟩=some (.int .i64 (P 0))/\w.cell? ⟨b,1,none⟩=some (.int .i64 (P 1))/\w.cell? ⟨b,2,none⟩=some (.int .i64 (P 2))/\w.cell? ⟨b,3,none⟩=some (.int .i64 (P 3))/\w.cell? ⟨b,4,none⟩=some (.int .i64 (P 4))/\w.cell? ⟨b,5,none⟩=some (.int .i64 (P 5)))/\(∀ k,w.frozen? ⟨b,k,none⟩=false):=by
 unfold QAt at h
 simp[World.cell?,World.frozen?,h]
theorem QAt.one(h:QAt w b P){k:Nat}(hk:k<6):w.cell? ⟨b,k,none⟩=some (.int .i64 (P k)):=by
 obtain⟨⟨h0,h1,h2,h3,h4,h5⟩,-⟩:=h.facts
 rcases (show k=0∨k=1∨k=2∨k=3∨k=4∨k=5 by omega) with rfl | rfl | rfl | rfl | rfl | rfl <;> assumption
theorem QAt.put(h:QAt w b P){k:Nat}(hk:k<6)(n:Int):QAt (w.setCell ⟨b,k,none⟩ (.int .i64 n)) b (z8u P ((k:Int),n)):=by
 unfold QAt at *;simp only[z3W hk]
 rcases (show k=0∨k=1∨k=2∨k=3∨k=4∨k=5 by omega) with rfl | rfl | rfl | rfl | rfl | rfl <;> simp[World.setCell,Array.getElem?_modify,h]
end
theorem z3T(w:World)(b k:Nat)(u:Value)(o:Obj):w.grownBy ((w.setCell ⟨b,k,none⟩ u).alloc o).drew (some b):=
 have h:=(Below.refl 0 w).setCell (p:=⟨b,k,none⟩) (Nat.zero_le _) u
 ⟨h.os,h.tape,h.output,by show w.heap.size<=((w.setCell ⟨b,k,none⟩ u).alloc o).heap.size;simp,fun j hj hne=>(Below.heap_alloc (w.setCell ⟨b,k,none⟩ u) o j (by simpa using hj)).trans (Below.heap_setCell _ _ _ _ (fun e=>hne (by rw[e])))⟩
theorem z5v{w w1:World}{b:Nat}(h:w.grownBy w1 (some b)){B:Nat}(hB:B<=b)(hz:B<=w.heap.size):Below B w w1:=(Below.refl B w).grown h hz (fun k hk=>by cases hk;exact hB)
theorem z8e(b:Nat)(v n:Int)(P:Nat->Int)(w:World)(h:QAt w b P) :
  Calls prog 32 #[.pointer (some ⟨b,0,none⟩),.agg #[.int .i64 v,.int .i64 n]] w fun e w'=>e=.returned (.tuple #[])/\QAt w' b (z8u P (v,n))/\w.grownBy w' (some b):=by
 have hV:=z7M v;have h1:=h.alloc (.cells #[.int .i64 v,.int .i64 n] 68);have hg1:=World.grownBy_alloc w (.cells #[.int .i64 v,.int .i64 n] 68) (some b);have hlt:=h.lt
 by_cases hv:0<=v/\v<6
 ·obtain⟨k,rfl⟩:=Int.eq_ofNat_of_zero_le hv.1;have hk:k<6:=by omega
  have hkI:(k:Int)<6:=by omega
  rw[show isV (k:Int)=true from z3t.2 hv]at hV;have hc:=h.one hk;have hf:=h.facts.2 k;have HQ:=hide (show _/\_ from⟨(h.put hk n).alloc (.cells #[.int .i64 (k:Int),.int .i64 n] 68),z3T w b k (.int .i64 n) (.cells #[.int .i64 (k:Int),.int .i64 n] 68)⟩);clear h1 hg1 hv h
  go_enter func32,ntmps32
  go_upto_region 2 with (go_at_call 48;refine (hV _).mono ?_;rintro e w1⟨rfl,rfl⟩)
  go_region
  all_goals go_end0
  all_goals exact⟨rfl,HQ.out.1,HQ.out.2⟩
 ·rw[show isV v=false by simpa [isV] using hv]at hV
  have hp:z8u P (v,n)=P:=by unfold z8u;rw[if_neg hv]
  rw[hp]
  go_enter func32,ntmps32
  go_wp2_with (go_at_call 48;refine (hV _).mono ?_;rintro e w1⟨rfl,rfl⟩)
  go_end0;exact⟨rfl,h1,hg1⟩
structure PIn(w:World)(l:List Pw)(ao:Option Addr)(b off:Nat):Prop where
 len:l.length<=8796093022202
 adr:0<l.length->ao=some ⟨b,off,none⟩
 cells:∀ i,i<l.length->w.cell? ⟨b,off+i * 2,none⟩=some (.int .i64 (l.getD i (0,0)).1)/\w.cell? ⟨b,off+i * 2+1,none⟩=some (.int .i64 (l.getD i (0,0)).2)
theorem PIn.ltB{w:World}{l:List Pw}{ao:Option Addr}{b off:Nat}(h:PIn w l ao b off)(h0:0<l.length):b<w.heap.size:=World.block_lt_of_cell? w _ (h.cells 0 h0).1
theorem PIn.later{B:Nat}{w w':World}{l:List Pw}{ao:Option Addr}{b off:Nat}(h:PIn w l ao b off)(hb:Below B w w')(hB:0<l.length->b<B):PIn w' l ao b off:=
 ⟨h.len,h.adr,fun i hi=>⟨(hb.cell (p:=⟨b,off+i * 2,none⟩) (hB (by omega))).trans (h.cells i hi).1,(hb.cell (p:=⟨b,off+i * 2+1,none⟩) (hB (by omega))).trans (h.cells i hi).2⟩⟩
theorem PIn.over{w w':World}{l:List Pw}{ao:Option Addr}{b off:Nat}(h:PIn w l ao b off)(hb:Below w.heap.size w w'):PIn w' l ao b off:=h.later hb h.ltB
def z3M(w:World)(b:Nat)(v0 v1 v2 v3 v4 v5:Value):World:=(((((w.setCell ⟨b,0,none⟩ v0).setCell ⟨b,1,none⟩ v1).setCell ⟨b,2,none⟩ v2).setCell ⟨b,3,none⟩ v3).setCell ⟨b,4,none⟩ v4).setCell ⟨b,5,none⟩ v5
theorem j7g{w:World}{b:Nat}{R:Nat->Int}(h:QAt w b R)(P:Nat->Int):QAt (z3M w b (.int .i64 (P 0)) (.int .i64 (P 1)) (.int .i64 (P 2)) (.int .i64 (P 3)) (.int .i64 (P 4)) (.int .i64 (P 5))) b P:=by
 unfold QAt z3M at *
 simp[World.setCell,Array.getElem?_modify,h]
theorem z3S{B:Nat}{w0 w:World}{b:Nat}(v0 v1 v2 v3 v4 v5:Value)(h:Below B w0 w)(hB:B<=b):Below B w0 (z3M w b v0 v1 v2 v3 v4 v5):=(((((h.setCell hB _).setCell hB _).setCell hB _).setCell hB _).setCell hB _).setCell hB _
theorem q1C(l:List Pw)(ao:Option Addr)(c b off:Nat)(w:World)(hl:PIn w l ao b off) :
  Calls prog 161 #[.slice ao l.length c] w fun e w'=>e=.returned (.agg #[.int .i64 (z1s l 0),.int .i64 (z1s l 1),.int .i64 (z1s l 2),.int .i64 (z1s l 3),.int .i64 (z1s l 4),.int .i64 (z1s l 5)])/\Below w.heap.size w w':=by
 have hlen:=hl.len;have HL:=hide hl;have Q1:=(QAt.new w z2t).alloc (.cells #[.int .i64 0,.int .i64 0,.int .i64 0,.int .i64 0,.int .i64 0,.int .i64 0] 39);have Q2:=QAt.new (w.alloc (.cells #[.int .i64 0,.int .i64 0,.int .i64 0,.int .i64 0,.int .i64 0,.int .i64 0] 39)) z2t;rw[show (w.alloc (.cells #[.int .i64 0,.int .i64 0,.int .i64 0,.int .i64 0,.int .i64 0,.int .i64 0] 39)).heap.size=w.heap.size+1 by simp]at Q2
 have BW:Below w.heap.size w ((w.alloc (.cells #[.int .i64 0,.int .i64 0,.int .i64 0,.int .i64 0,.int .i64 0,.int .i64 0] 39)).alloc (.cells #[.int .i64 0,.int .i64 0,.int .i64 0,.int .i64 0,.int .i64 0,.int .i64 0] 39)):=(znw w _).alloc (by simp) _
 dsimp only [z2t]at Q1 Q2;clear hl
 go_enter func161,ntmps161
 go_upto_region 2 with fail
 generalize ((w.alloc (.cells #[.int .i64 0,.int .i64 0,.int .i64 0,.int .i64 0,.int .i64 0,.int .i64 0] 39)).alloc (.cells #[.int .i64 0,.int .i64 0,.int .i64 0,.int .i64 0,.int .i64 0,.int .i64 0] 39))=w0 at *;have HX:=hide (show _/\_/\_ from⟨Q1,Q2,BW⟩);clear Q1 Q2 BW
 go_upto_region 3 with fail
 go_loopw [4] (fun i wl=>∃ k:Nat,k<=l.length/\i=.int .i64 ((k:Int) - 1)/\Hid (QAt wl w.heap.size (fun _=>0)/\QAt wl (w.heap.size+1) (z1s (l.drop k))/\Below w.heap.size w wl)) (fun i _=>(intOf i+1).toNat)
 case atStart=>exact⟨l.length,Nat.le_refl _,rfl,HX.out.1,by rw[List.drop_length];exact HX.out.2.1,HX.out.2.2⟩
 case round =>
  obtain⟨k,hk,rfl,HR⟩:=hrel;clear HX
  by_cases h0:0<k
  ·obtain⟨j,rfl⟩:∃ j,k=j+1:=⟨k - 1,by omega⟩
   have hj:j<l.length:=by omega
   have hjI:(j:Int)<(l.length:Int):=by omega
   obtain⟨c0,c1⟩:=(HL.out.later HR.out.2.2 HL.out.ltB).cells j hj;have HS:=hide (q6w l j hj);have eao:=HL.out.adr (by omega)
   subst eao;generalize l.getD j (0,0)=x at *;obtain⟨v,n⟩:=x;dsimp only at c0 c1;have ej:(((j+1:Nat):Int) - 1)=(j:Int):=by omega
   rw[ej]
   go_wp2_with (go_at_call 32;refine (z8e (w.heap.size+1) v n _ _ HR.out.2.1).mono ?_;rintro e w1⟨rfl,hq,hg⟩;have HQ:=hide hq;have HG:=hide hg;clear hq hg)
   refine⟨⟨j,by omega,rfl,(HG.out.block _ HR.out.1.lt (by simp)).trans HR.out.1,by rw[HS.out];exact HQ.out,HR.out.2.2.trans (z5v HG.out (by omega) HR.out.2.2.size)⟩,by simp[intOf]⟩
  ·obtain rfl:k=0:=by omega
   have hF:z1s (l.drop 0)=z1s l:=by rw[List.drop_zero]
   rw[hF]at HR;obtain⟨F,hFl⟩:∃ F,z1s l=F:=⟨_,rfl⟩;rw[hFl]at HR;have HFL:=hide hFl;clear hF hFl;obtain⟨⟨c0,c1,c2,c3,c4,c5⟩,-⟩:=HR.out.2.1.facts;obtain⟨⟨d0,d1,d2,d3,d4,d5⟩,hfr⟩:=HR.out.1.facts;go_wp2;have HQ:=j7g HR.out.1 F;have HB:=z3S (b:=w.heap.size) (.int .i64 (F 0)) (.int .i64 (F 1)) (.int .i64 (F 2)) (.int .i64 (F 3)) (.int .i64 (F 4)) (.int .i64 (F 5)) HR.out.2.2 (Nat.le_refl _)
   show bodyPost prog f161 _ Exit.ret _ (z3M wr w.heap.size (.int .i64 (F 0)) (.int .i64 (F 1)) (.int .i64 (F 2)) (.int .i64 (F 3)) (.int .i64 (F 4)) (.int .i64 (F 5)))
   generalize z3M wr w.heap.size (.int .i64 (F 0)) (.int .i64 (F 1)) (.int .i64 (F 2)) (.int .i64 (F 3)) (.int .i64 (F 4)) (.int .i64 (F 5))=w9 at *;obtain⟨⟨z0,z1,z2,z3,z4,z5⟩,-⟩:=HQ.facts;exact bodyPost_ret (v:=.agg #[.int .i64 (F 0),.int .i64 (F 1),.int .i64 (F 2),.int .i64 (F 3),.int .i64 (F 4),.int .i64 (F 5)]) (by simp[results,results161,go_sem,z0,z1,z2,z3,z4,z5]) rfl ⟨by rw[HFL.out],HB⟩
end Df
namespace Wd
open Go.ChangeShapes Go.WideShapes Go.ChangeAt Go.RowKit Go.Deep Pv
def ddL(x:Dd):List Value:=[.int .i64 x.k,.int .i64 x.c,.int .i64 x.d,.int .i64 x.v,.int .i64 x.n,.bool x.b,.bool x.f]
structure z3y(w:World)(ao:Option Addr)(b off:Nat)(l:List Dd):Prop where
 adr:0<l.length->ao=some ⟨b,off,none⟩
 len:l.length<=maxLen
 cell:∀ (i:Nat) (x:Dd),l[i]?=some x->w.rangeAt b (off+i * 7) (ddL x)
theorem z3y.lt{w:World}{ao:Option Addr}{b off:Nat}{l:List Dd}(h:z3y w ao b off l)(h0:0<l.length):b<w.heap.size:=
 World.block_lt_of_cell? w ⟨b,off+0 * 7+0,none⟩ (h.cell 0 l[0] (List.getElem?_eq_getElem h0) 0 _ rfl)
theorem z3y.over{w w':World}{B:Nat}{ao:Option Addr}{b off:Nat}{l:List Dd}(h:z3y w ao b off l)(hb:Below B w w')(hB:w.heap.size<=B):z3y w' ao b off l:=by
 refine⟨h.adr,h.len,fun i x hx j v hv=>?_⟩;have h0:0<l.length:=by have:=(List.getElem?_eq_some_iff.1 hx).1;omega
 have:=h.lt h0;rw[hb.cell (p:=⟨b,off+i * 7+j,none⟩) (by show b<B;omega)]
 exact h.cell i x hx j v hv
theorem j7V:(prog.info? 29).map (·.size)=some 7:=by kernel_rfl
def j4l(v:Value):Sem Value:=Instr.loadAt 29 v
theorem z5O(v:Value):Instr.loadAt 29 v=j4l v:=rfl
theorem z3y.load{w:World}{ao:Option Addr}{b off:Nat}{l:List Dd}(h:z3y w ao b off l){i:Nat}{x:Dd}(hx:l[i]?=some x):(j4l (.pointer (some ⟨b,off+i * 7,none⟩))).run prog w=.ok (.agg (ddC x)) w:=
 run_loadAt_mid (P:=prog) w b (off+i * 7) 29 (ddL x) _ (h.cell i x hx) underlying29 rfl (by rw[j7V];rfl)
theorem j5A{β:Type}{p:Nat->β->Prop}(d:β){n:Nat}(h:∀ i,i<n->∃ y,p i y):∃ f:Nat->β,∀ i,i<n->p i (f i):=by
 refine⟨fun i=>if hi:i<n then Classical.choose (h i hi) else d,fun i hi=>?_⟩;simp only[dif_pos hi];exact Classical.choose_spec (h i hi)
theorem cI':prog.cellsOf 3=1:=by kernel_rfl
theorem cT':prog.cellsOf 4=1:=by kernel_rfl
theorem cDd:prog.cellsOf 29=7:=by kernel_rfl
section
variable {H:Type} {enc:TypeId×Value->H} {W:World}
theorem j5i{m:Nat}{l:List Value}{y:DataW H×List MemPlace}(h:DataW.trod enc prog W 0 (fun _=>true) true m 29 l=some y):∃ x:Dd,l=ddL x:=by
 obtain⟨xs,n,_,_,hl,hxl,hx⟩:=DataW.trod_struct underlying29 h;rw[cDd]at hl
 match l,hl with
 | [a0,a1,a2,a3,a4,a5,a6],_ =>
  match xs,hxl with
  | [y0,y1,y2,y3,y4,y5,y6],_ =>
   have t0:=hx 0 _ rfl;have t1:=hx 1 _ rfl;have t2:=hx 2 _ rfl;have t3:=hx 3 _ rfl;have t4:=hx 4 _ rfl;have t5:=hx 5 _ rfl;have t6:=hx 6 _ rfl
   simp[cI',cT']at t0 t1 t2 t3 t4 t5 t6
   obtain⟨q0,e0,_⟩:=DataW.trod_int underlying3 t0;obtain⟨q1,e1,_⟩:=DataW.trod_int underlying3 t1;obtain⟨q2,e2,_⟩:=DataW.trod_int underlying3 t2;obtain⟨q3,e3,_⟩:=DataW.trod_int underlying3 t3;obtain⟨q4,e4,_⟩:=DataW.trod_int underlying3 t4;obtain⟨q5,e5,_⟩:=DataW.trod_bool underlying4 t5;obtain⟨q6,e6,_⟩:=DataW.trod_bool underlying4 t6
   simp at e0 e1 e2 e3 e4 e5 e6
   subst e0 e1 e2 e3 e4 e5 e6;exact⟨⟨q0,q1,q2,q3,q4,q5,q6⟩,rfl⟩
theorem z4X{r:Reach}{b0:Nat}{v:Value}{d:DataW H}{p:List MemPlace}(hv:Value.okWide prog W r b0 22 v)(h:DataW.Trod enc prog W 0 (fun _=>true) true 22 v d p) :
  ∃ (l:List Dd) (ao:Option Addr) (c b off:Nat),v=.slice ao l.length c/\z3y W ao b off l/\(ao=none->c=0)/\l.length<=c:=by
 obtain⟨a,len,cap,rfl⟩:=okWide_slice underlying22 hv;obtain⟨fuel,hf⟩:=h
 rcases open_slice underlying22 hf with⟨h0,_⟩ | ⟨a,len',cap',k,n,D,Pl,hcs,_,hlc,hmx,hk,hy,hx⟩
 ·simp[Value.cells]at h0
  obtain⟨rfl,rfl,rfl⟩:=h0;exact⟨[],none,0,0,0,rfl,⟨fun h=>absurd h (by simp),by simp,fun i x h=>by simp at h⟩,fun _=>rfl,Nat.le_refl _⟩
 simp[Value.cells]at hcs
 obtain⟨rfl,rfl,rfl⟩:=hcs;simp only[if_true]at hk;subst hk;rw[cDd]at hx
 obtain⟨g,hg⟩:=j5A (n:=k) (p:=fun i (x:Dd)=>W.cells? 0 (a.add (i * 7)) 7=some (ddL x)) ⟨0,0,0,0,0,false,false⟩ (fun i hi=>by
  obtain⟨cs',h1,h2⟩:=hx i hi;obtain⟨x,rfl⟩:=j5i h2
  exact⟨x,h1⟩)
 have hlen:((List.range len).map g).length=len:=by simp
 by_cases h0:len=0
 ·subst h0;exact⟨[],some a,k,0,0,rfl,⟨fun h=>absurd h (by simp),by simp,fun i x h=>by simp at h⟩,(fun h=>by cases h),Nat.zero_le _⟩
 have hcell:∀ i,i<k->∀ j v,(ddL (g i))[j]?=some v->W.cell? ((a.add (i * 7)).add j)=some v:=fun i hi j v hv=>by
  obtain⟨_,hlen',hc⟩:=World.cells?_some (hg i hi);have hj:j<7:=by have:=(List.getElem?_eq_some_iff.1 hv).1;simpa [ddL] using this
  rw[hc j hj];exact hv
 obtain⟨b,off,spot⟩:=a
 have hspot:spot=none:=by
  have:=hcell 0 (by omega) 0 _ rfl
  simpa [Addr.add] using World.cell?_spot this
 subst hspot;refine⟨(List.range len).map g,some ⟨b,off,none⟩,k,b,off,by rw[hlen],⟨fun _=>rfl,by rw[hlen];omega,fun i x hi=>?_⟩,(fun h=>by cases h),by rw[hlen];omega⟩
 have hil:i<len:=by have:=(List.getElem?_eq_some_iff.1 hi).1;simpa using this
 obtain rfl:g i=x:=by simpa [hil] using hi
 have hc:=hcell i (by omega)
 simp only[Addr.add_lit]at hc;intro j v hv;exact hc j v hv
end
end Wd
end Go.Proofs.YtmopekkhmhhcaaaGreat
