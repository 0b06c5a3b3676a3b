/- Parts of the proof: PVL SB SC Q RA1 PVSA PVSM WUA WUB WUC WUD WUE WUF WST WUG WSL WSC WLY WUH WUI WUJ WUK WSQ WSP WO2 WUL WPLy WAP WUN. -/
import Derived.Test.YtddlhnoedldidaaGreatRows
import Derived.Test.YtddlhnoedldidaaGreatMK35
import Derived.ChangeOld
set_option maxRecDepth 100000
set_option maxHeartbeats 16000000
namespace Go.Proofs.YtddlhnoedldidaaGreat
open Go.Proofs.Tryz
open Value renaming int->J,slice->J1,pointer->J2,bool->J3,agg->J4
open IntKind renaming i64->I
open Obj renaming cells->J5
namespace Pv
open Go.RowKit
section
variable {P P':Nat->Prop} {w w':World} {v:Value} {sz bts:Nat} {cs:List Value}
theorem z0C.map(h:z0C P w v sz bts cs)(k:∀ u,Rep P w u sz bts cs->Rep P' w' u sz bts cs):z0C P' w' v sz bts cs:=by
 obtain⟨A,n,C,C',h1,h2,h3⟩:=h;exact⟨A,n,C,C',h1,h2,k _ h3⟩
end
end Pv
section
open Go.RowKit
def wtC(x:Wt):Array Value:=#[J I x.num,J I x.d,J I x.v,J I x.amt,J I x.hei,J I x.due,J I x.h0,J I x.h1]
theorem j6Z:(prog.info? 40).map (·.size)=some 24:=by kernel_rfl
theorem neB(w:World)(b c d e f g i b0 b1 b2 b3 j k l:Int):(binOp .neq 35 (J4 #[J I b,J I c,J I d,J I e,J I f,J I g,J I i]) (J4 #[J I b0,J I b1,J I b2,J I b3,J I j,J I k,J I l])).run prog w=.ok (J3 (!decide (b=b0/\c=b1/\d=b2/\e=b3/\f=j/\g=k/\i=l))) w:=by
 have h:=eqB w b c d e f g i b0 b1 b2 b3 j k l;rw[run_eql_struct]at h;rw[run_neq_struct]
 revert h
 generalize (Op.equalIn 10000 35 _ _).run prog w=r;intro h;cases r with
 | ok a w1=>
  simp only[Result.andThen_ok]at h ⊢;cases h;rfl
 | _=>cases h
theorem j8z(w:World)(t s l:Int)(j d:Bool):(Op.equalIn 9999 37 (J4 #[J I t,J I s,J I l,J3 j,J3 d]) (J4 #[J I t,J I s,J I l,J3 j,J3 d])).run prog w=.ok true w:=by
 go_simp
theorem j8Q(w:World)(V:Nat->Vd):(Op.equalIn 10000 38 (J4 (vsC V)) (J4 (vsC V))).run prog w=.ok true w:=by
 have a:(prog.info? 37).isSome=true:=by kernel_rfl
 obtain⟨i,a⟩:=Option.isSome_iff_exists.1 a;have hc:prog.cellsOf 37=5:=by kernel_rfl
 rw[run_equalIn_array w 9999 _ _ underlying38 a,hc,show List.range 6=[0,1,2,3,4,5] from rfl];have h:=j8z;simp only[Op.eqItems,vsC];go_simp
theorem j7M(w:World)(a b c d e f:Int):(Op.equalIn 9999 39 (J4 #[J I a,J I b,J I c,J I d,J I e,J I f]) (J4 #[J I a,J I b,J I c,J I d,J I e,J I f])).run prog w=.ok true w:=by
 have g:(prog.info? 3).isSome=true:=by kernel_rfl
 obtain⟨i,g⟩:=Option.isSome_iff_exists.1 g;have hc:prog.cellsOf 3=1:=by kernel_rfl
 rw[run_equalIn_array w 9998 _ _ underlying39 g,hc,show List.range 6=[0,1,2,3,4,5] from rfl];simp only[Op.eqItems];go_simp
theorem j8M(w:World)(S:Nat->Nat->Int):(Op.equalIn 10000 40 (J4 (shC S)) (J4 (shC S))).run prog w=.ok true w:=by
 have a:(prog.info? 39).isSome=true:=by kernel_rfl
 obtain⟨i,a⟩:=Option.isSome_iff_exists.1 a;have hc:prog.cellsOf 39=6:=by kernel_rfl
 rw[run_equalIn_array w 9999 _ _ underlying40 a,hc,show List.range 4=[0,1,2,3] from rfl];have h:=j7M;simp only[Op.eqItems,shC];go_simp
theorem j8S(w:World)(V:Nat->Vd):(binOp .neq 38 (J4 (vsC V)) (J4 (vsC V))).run prog w=.ok (J3 false) w:=by
 rw[run_neq_struct,j8Q];rfl
theorem j8V(w:World)(S:Nat->Nat->Int):(binOp .neq 40 (J4 (shC S)) (J4 (shC S))).run prog w=.ok (J3 false) w:=by
 rw[run_neq_struct,j8M];rfl
theorem eqH(w:World)(a b:Int):(Op.equalIn 9999 61 (J4 #[J I a,J I b]) (J4 #[J I a,J I b])).run prog w=.ok true w:=by
 have c:(prog.info? 3).isSome=true:=by kernel_rfl
 obtain⟨i,c⟩:=Option.isSome_iff_exists.1 c;have hc:prog.cellsOf 3=1:=by kernel_rfl
 rw[run_equalIn_array w 9998 _ _ underlying61 c,hc,show List.range 2=[0,1] from rfl];simp only[Op.eqItems];go_simp
theorem j8U(w:World)(x:Wt):(binOp .neq 63 (J4 (wtC x)) (J4 (wtC x))).run prog w=.ok (J3 false) w:=by
 have h:=fun w=>eqH w x.h0 x.h1;rw[run_neq_struct];unfold wtC;go_simp
theorem j8N(w:World)(b:Bk):(binOp .neq 35 (J4 #[J I b.f0,J I b.f1,J I b.f2,J I b.f3,J I b.bo,J I b.wa,J I b.bu]) (J4 #[J I b.f0,J I b.f1,J I b.f2,J I b.f3,J I b.bo,J I b.wa,J I b.bu])).run prog w=.ok (J3 false) w:=by
 rw[neB]
 simp
end
namespace Pv
open Go.RowKit
theorem q0t:(prog.info? 52).map (·.size)=some 14:=by kernel_rfl
theorem z9p{w:World}{b:Nat}{p:Pr}{v:PrV}(h:CAt 58 w b (prC p v))(k:Nat)(c:k<2):w.rangeAt b (66+k * 14) (lkL (p.L k) (v.l k)):=h.part fun j x a=>by
 have d:j<14:=(List.getElem?_eq_some_iff.1 a).1;rw[z1s k c j d];exact a
theorem q0J{w:World}{b:Nat}{p:Pr}{v:PrV}(h:CAt 58 w b (prC p v))(k:Nat)(a:k<2):(q3Q (J2 (some ⟨b,66+k * 14,none⟩))).run prog w=.ok (J4 (lkL (p.L k) (v.l k)).toArray) w:=
 run_loadAt_mid (P:=prog) w b (66+k * 14) 52 _ _ (z9p h k a) underlying52 rfl (by rw[q0t];rfl)
attribute [local go_sem ↓] q1i
end Pv
namespace Pv
open Go.RowKit
theorem z6Q{w:World}{b:Nat}{x:Lk}{v:LkV}(h:CAt 52 w b (lkL x v).toArray):w.cell? ⟨b,0,none⟩=some (J3 x.on)/\w.cell? ⟨b,1,none⟩=some (J3 x.gone)/\w.cell? ⟨b,2,none⟩=some (J I x.base)/\w.cell? ⟨b,3,none⟩=some v.told/\w.cell? ⟨b,4,none⟩=some (J3 x.fresh)/\w.cell? ⟨b,5,none⟩=some v.done/\(w.cell? ⟨b,6,none⟩=some v.said/\w.cell? ⟨b,7,none⟩=some v.due/\w.cell? ⟨b,8,none⟩=some (J I x.out.g)/\w.cell? ⟨b,9,none⟩=some (J3 x.out.cl))/\(w.cell? ⟨b,10,none⟩=some (J I x.h0)/\w.cell? ⟨b,11,none⟩=some (J I x.h1)/\w.cell? ⟨b,12,none⟩=some (J I x.h2)/\w.cell? ⟨b,13,none⟩=some (J I x.h3)):=
 ⟨h.cell 0,h.cell 1,h.cell 2,h.cell 3,h.cell 4,h.cell 5,⟨h.cell 6,h.cell 7,h.cell 8,h.cell 9⟩,⟨h.cell 10,h.cell 11,h.cell 12,h.cell 13⟩⟩
attribute [local go_sem ↓] z1B
end Pv
namespace Wd
open Go.RowKit Pv Kc
theorem Uz.keep{e:TypeId}{w w':World}{b:Nat}(h:Uz e w b)(c:w'.heap[b]?=w.heap[b]?):Uz e w' b:=by
 obtain⟨cs,a⟩:=h;exact⟨cs,c.trans a⟩
theorem Uz.lt{e:TypeId}{w:World}{b:Nat}(h:Uz e w b):b<w.heap.size:=by
 obtain⟨cs,a⟩:=h;exact (Array.getElem?_eq_some_iff.1 a).1
theorem Uz.free{e:TypeId}{w:World}{b:Nat}(h:Uz e w b)(o:Nat):w.frozen? ⟨b,o,none⟩=false:=by
 obtain⟨cs,a⟩:=h
 simp[World.frozen?,a]
theorem Uz.set{e:TypeId}{w:World}{b:Nat}(h:Uz e w b)(g o:Nat)(y:Value):Uz e (w.setCell ⟨g,o,none⟩ y) b:=by
 obtain⟨cs,a⟩:=h
 by_cases c:b=g
 ·subst c;exact⟨_,CAt.set (ty:=e) a o y⟩
 ·exact⟨cs,CAt.other (ty:=e) a c y⟩
theorem Uz.ne{e f:TypeId}{w:World}{b c:Nat}(h:Uz e w b)(k:Uz f w c)(g:e≠f):b≠c:=fun hb=>by
 obtain⟨cs,a⟩:=h;obtain⟨ds,d⟩:=k;rw[hb,d]at a;cases a;exact g rfl
def z1v(e:TypeId)(P:Nat->Prop)(w:World)(v:Value)(sz bts:Nat)(cs:List Value):Prop:=Rep (fun b=>P b/\Uz e w b) w v sz bts cs
def z3Q(e:TypeId)(P:Nat->Prop)(w:World)(v:Value)(sz bts:Nat)(cs:List Value):Prop:=z0C (fun b=>P b/\Uz e w b) w v sz bts cs
section
variable {e:TypeId} {P P':Nat->Prop} {w w':World} {v:Value} {sz bts:Nat} {cs:List Value}
theorem z1v.rep(h:z1v e P w v sz bts cs):Rep P w v sz bts cs:=Rep.mono h fun _ _ h=>h.1
theorem z1v.mono(h:z1v e P w v sz bts cs)(hp:∀ b,b<w.heap.size->P b->P' b):z1v e P' w v sz bts cs:=Rep.mono h fun b a hb=>⟨hp b a hb.1,hb.2⟩
theorem z1v.keep(h:z1v e P w v sz bts cs)(a:∀ b,P b->b<w.heap.size->w'.heap[b]?=w.heap[b]?):z1v e P w' v sz bts cs:=by
 have h1:Rep (fun b=>(P b/\Uz e w b)/\w'.heap[b]?=w.heap[b]?) w v sz bts cs:=Rep.mono h fun b c hb=>⟨hb,a b hb.1 c⟩;exact Rep.mono (Rep.keep h1 fun b hb _=>hb.2) fun b _ hb=>⟨hb.1.1,hb.1.2.keep hb.2⟩
theorem z1v.over(h:z1v e P w v sz bts cs)(hb:Bl w w'):z1v e P w' v sz bts cs:=h.keep fun b _ a=>hb.block b a
theorem z1v.sets(h:z1v e P w v sz bts cs){g:Nat}(c:¬ P g)(o:Nat)(a:List Value):z1v e P (w.setCells g o a) v sz bts cs:=h.keep fun b hb _=>z0M (show b≠g from fun e=>c (by rw[<- e];exact hb)) a o w
theorem z1v.nil(e:TypeId)(P:Nat->Prop)(w:World)(sz bts:Nat):z1v e P w (J1 none 0 0) sz bts []:=Rep.nil _ _ _ _
theorem z1v.less{b:Nat}(h:z1v e P w v sz bts cs)(a:b<=bts):z1v e P w v sz b cs:=by
 obtain⟨A,n,C,h1,h2,h3,c⟩:=h;exact⟨A,n,C,h1,h2,Nat.le_trans (Nat.mul_le_mul_left _ a) h3,c⟩
theorem z1v.c(h:z1v e P w v sz bts cs):z3Q e P w v sz bts cs:=Rep.c h
theorem z3Q.rep(h:z3Q e P w v sz bts cs):z0C P w v sz bts cs:=z0C.mono h fun _ _ h=>h.1
theorem z3Q.one(h:z3Q e P w v sz bts cs):v.oneCell'=true:=z0C.one h
theorem z3Q.mono(h:z3Q e P w v sz bts cs)(hp:∀ b,b<w.heap.size->P b->P' b):z3Q e P' w v sz bts cs:=z0C.map h fun _ hu=>z1v.mono hu hp
theorem z3Q.keep(h:z3Q e P w v sz bts cs)(a:∀ b,P b->b<w.heap.size->w'.heap[b]?=w.heap[b]?):z3Q e P w' v sz bts cs:=z0C.map h fun _ hu=>z1v.keep hu a
theorem _root_.Go.Proofs.YtddlhnoedldidaaGreat.Pv.Alt.q1M{g:Nat}(h:Alt g w w')(c:¬ P g)(hp:z1v e P w v sz bts cs):z1v e P w' v sz bts cs:=hp.keep fun b hb a=>h.block b a (fun e=>c (e ▸ hb))
theorem z1v.own{base n:Nat}(h:w.ownsRow base e sz v n cs)(hb:n * bts<=140737488351232):z1v e (fun b=>base<=b) w v sz bts cs:=by
 obtain⟨A,m,C,h1,h2,h3,c,d⟩:=Rep.own (bts:=bts) h hb;refine⟨A,m,C,h1,h2,h3,c,fun h0=>?_⟩;obtain⟨b,off,a,f,i,j⟩:=d h0;refine⟨b,off,a,⟨f,?_⟩,i,j⟩
 rcases h.2 with⟨hv,hn⟩ | ⟨g,cap,cur,hv,g1,g2,g3⟩
 ·rw[hv]at h1;cases h1;cases a
 ·rw[hv]at h1;cases h1;cases a;exact⟨cur,g2⟩
end
section
variable {e:TypeId} {P P':Nat->Prop} {w w':World} {v:Value} {n sz bts:Nat} {cs:List Value}
theorem z3Q.wr(h:z3Q e P w v sz bts cs)(c:cs.length=n * sz)(d:0<sz)(hb:0<bts):Wr e P w v n sz:=by
 obtain⟨A,m,C,C',h1,-,A',o,p,h3,f,g,-,i⟩:=h;cases h3;obtain rfl:m=n:=Nat.eq_of_mul_eq_mul_right d (f.symm.trans c);refine⟨Nat.le_trans (Nat.le_mul_of_pos_right _ hb) g,A,C,h1,fun h0=>?_⟩;obtain⟨b,off,k,a,-,l⟩:=i h0;refine⟨b,off,k,a.1,a.2,fun j q=>?_⟩;obtain⟨u,hu⟩:∃ u,cs[j]?=some u:=⟨_,List.getElem?_eq_getElem (by omega)⟩
 exact⟨u,l j u hu⟩
theorem z1v.wr(h:z1v e P w v sz bts cs)(a:cs.length=n * sz)(b:0<sz)(hb:0<bts):Wr e P w v n sz:=h.c.wr a b hb
theorem Wr.set(h:Wr e P w v n sz)(g o:Nat)(y:Value):Wr e P (w.setCell ⟨g,o,none⟩ y) v n sz:=by
 obtain⟨h0,A,C,h1,a⟩:=h;refine⟨h0,A,C,h1,fun h0=>?_⟩;obtain⟨b,off,c,d,f,i⟩:=a h0;refine⟨b,off,c,d,f.set g o y,fun j k=>?_⟩;obtain⟨u,hu⟩:=i j k;exact cell?_setCell_some hu
theorem Wr.over(h:Wr e P w v n sz)(hb:Bl w w'):Wr e P w' v n sz:=by
 obtain⟨h0,A,C,h1,d⟩:=h;refine⟨h0,A,C,h1,fun h0=>?_⟩;obtain⟨b,off,f,g,c,i⟩:=d h0;refine⟨b,off,f,g,c.keep (hb.block b c.lt),fun j k=>?_⟩;obtain⟨u,hu⟩:=i j k;exact⟨u,(World.cell?_of_block (w:=w) (a:=⟨b,off+j,none⟩) (hb.block b c.lt)).trans hu⟩
theorem Wr.at_(h:Wr e P w v n sz){k:Nat}(c:k<n){j:Nat}(i:j<sz):∃ b off C u,v=J1 (some ⟨b,off,none⟩) n C/\P b/\Uz e w b/\b<w.heap.size/\w.cell? ⟨b,off+k * sz+j,none⟩=some u/\w.frozen? ⟨b,off+k * sz+j,none⟩=false:=by
 obtain⟨-,A,C,rfl,d⟩:=h;obtain⟨b,off,rfl,f,a,g⟩:=d (by omega)
 obtain⟨u,hu⟩:=g (k * sz+j) (by have:(k+1) * sz<=n * sz:=Nat.mul_le_mul_right _ c;rw[Nat.succ_mul]at this;omega)
 exact⟨b,off,C,u,rfl,f,a,a.lt,by rw[Nat.add_assoc];exact hu,a.free _⟩
theorem Wr.shape(h:Wr e P w v n sz):n<=140737488351232/\∃ A C,v=J1 A n C:=by
 obtain⟨h0,A,C,h,-⟩:=h;exact⟨h0,A,C,h⟩
end
end Wd
namespace Wd
open Go.RowKit Pv Kc
theorem z9C(A:Option Addr)(n C:Nat)(cs:List Value)(w:World)(h:Row w A n C 1 cs)(h1:∀ u∈cs,u.oneCell'=true)(hb:n * 8<=140737488351232) :
  Calls prog 40 #[J1 A n C] w fun e w'=>∃ A' C',e=.returned (J1 A' n C')/\z1v 3 (fun b=>w.heap.size<=b) w' (J1 A' n C') 1 8 cs/\Bl w w':=by
 cases A with
 | none =>
  obtain⟨rfl,rfl⟩:=h.nil rfl;obtain rfl:cs=[]:=List.length_eq_zero_iff.1 (by rw[h.len])
  have d:=fun w=>q3o w none 0 0;clear h h1
  go_enter func40,ntmps40
  go_wp2;go_ret;exact⟨_,_,rfl,z1v.nil _ _ _ _ _,Below.refl _ _⟩
 | some a =>
  have d:=fun w=>q3o w (some a) n C;have f:=J6 h;have c:=J6 h1;clear h h1
  go_enter func40,ntmps40
  go_upto_region 3 with fail
  apply wp_region_lit
  iterate 6 go_step
  refine z9b rfl rfl _ _ rfl a n C cs rfl rfl f.out c.out hb ?_;rintro A' C' w'⟨h1,h2⟩;have c:=J6 h1;have g:=J6 h2;clear h1 h2;go_wp2;go_ret;exact⟨_,_,rfl,z1v.own c.out hb,g.out⟩
theorem j1J(A:Option Addr)(n C:Nat)(cs:List Value)(w:World)(h:Row w A n C 1 cs)(h1:∀ u∈cs,u.oneCell'=true)(hb:n * 16<=140737488351232) :
  Calls prog 66 #[J1 A n C] w fun e w'=>∃ A' C',e=.returned (J1 A' n C')/\z1v 9 (fun b=>w.heap.size<=b) w' (J1 A' n C') 1 16 cs/\Bl w w':=by
 cases A with
 | none =>
  obtain⟨rfl,rfl⟩:=h.nil rfl;obtain rfl:cs=[]:=List.length_eq_zero_iff.1 (by rw[h.len])
  have d:=fun w=>q3j w none 0 0;clear h h1
  go_enter func66,ntmps66
  go_wp2;go_ret;exact⟨_,_,rfl,z1v.nil _ _ _ _ _,Below.refl _ _⟩
 | some a =>
  have d:=fun w=>q3j w (some a) n C;have f:=J6 h;have c:=J6 h1;clear h h1
  go_enter func66,ntmps66
  go_upto_region 3 with fail
  apply wp_region_lit
  iterate 6 go_step
  refine z8u rfl rfl _ _ rfl a n C cs rfl rfl f.out c.out hb ?_;rintro A' C' w'⟨h1,h2⟩;have c:=J6 h1;have g:=J6 h2;clear h1 h2;go_wp2;go_ret;exact⟨_,_,rfl,z1v.own c.out hb,g.out⟩
theorem j0N(A:Option Addr)(n C:Nat)(cs:List Value)(w:World)(h:Row w A n C 2 cs)(h1:∀ u∈cs,u.oneCell'=true)(hb:n * 16<=140737488351232) :
  Calls prog 45 #[J1 A n C] w fun e w'=>∃ A' C',e=.returned (J1 A' n C')/\z1v 79 (fun b=>w.heap.size<=b) w' (J1 A' n C') 2 16 cs/\Bl w w':=by
 cases A with
 | none =>
  obtain⟨rfl,rfl⟩:=h.nil rfl;obtain rfl:cs=[]:=List.length_eq_zero_iff.1 (by rw[h.len])
  have d:=fun w=>q3P w none 0 0;clear h h1
  go_enter func45,ntmps45
  go_wp2;go_ret;exact⟨_,_,rfl,z1v.nil _ _ _ _ _,Below.refl _ _⟩
 | some a =>
  have d:=fun w=>q3P w (some a) n C;have f:=J6 h;have c:=J6 h1;clear h h1
  go_enter func45,ntmps45
  go_upto_region 3 with fail
  apply wp_region_lit
  iterate 6 go_step
  refine z8T rfl rfl _ _ rfl a n C cs rfl rfl f.out c.out hb ?_;rintro A' C' w'⟨h1,h2⟩;have c:=J6 h1;have g:=J6 h2;clear h1 h2;go_wp2;go_ret;exact⟨_,_,rfl,z1v.own c.out hb,g.out⟩
theorem z6R(A:Option Addr)(n C:Nat)(cs:List Value)(w:World)(h:Row w A n C 2 cs)(h1:∀ u∈cs,u.oneCell'=true)(hb:n * 16<=140737488351232) :
  Calls prog 39 #[J1 A n C] w fun e w'=>∃ A' C',e=.returned (J1 A' n C')/\z1v 65 (fun b=>w.heap.size<=b) w' (J1 A' n C') 2 16 cs/\Bl w w':=by
 cases A with
 | none =>
  obtain⟨rfl,rfl⟩:=h.nil rfl;obtain rfl:cs=[]:=List.length_eq_zero_iff.1 (by rw[h.len])
  have d:=fun w=>z7k w none 0 0;clear h h1
  go_enter func39,ntmps39
  go_wp2;go_ret;exact⟨_,_,rfl,z1v.nil _ _ _ _ _,Below.refl _ _⟩
 | some a =>
  have d:=fun w=>z7k w (some a) n C;have f:=J6 h;have c:=J6 h1;clear h h1
  go_enter func39,ntmps39
  go_upto_region 3 with fail
  apply wp_region_lit
  iterate 6 go_step
  refine z4E rfl rfl _ _ rfl a n C cs rfl rfl f.out c.out hb ?_;rintro A' C' w'⟨h1,h2⟩;have c:=J6 h1;have g:=J6 h2;clear h1 h2;go_wp2;go_ret;exact⟨_,_,rfl,z1v.own c.out hb,g.out⟩
end Wd
namespace Wd
open Go.RowKit Pv Kc
attribute [local go_sem ↓] z1Z z1y
theorem q2X(l:Ln.Line)(v1 v2:Value)(P:Nat->Prop)(w:World)(h1:z0C P w v1 1 16 (txC l.S))(h2:z0C P w v2 1 8 (inC l.D)) :
  Calls prog 41 #[J4 #[v1,v2,J I l.g,J3 l.cl]] w fun e w'=>∃ u1 u2,e=.returned (J4 #[u1,u2,J I l.g,J3 l.cl])/\z3Q 9 (fun b=>w.heap.size+2<=b) w' u1 1 16 (txC l.S)/\z3Q 3 (fun b=>w.heap.size+2<=b) w' u2 1 8 (inC l.D)/\Bl w w':=by
 obtain⟨q,r,rfl,R1,j⟩:=z3b h1 (z0V l.S) (by decide)
 obtain⟨s,t,rfl,x,y⟩:=z3b h2 (z0h l.D) (by decide)
 have HT:=J6 (fun (z:World) (hb:Bl w z)=>j1J q l.S.length r (txC l.S) z (by obtain⟨B,D,e,R,-⟩:=z3b (h1.over hb) (z0V l.S) (by decide);cases e;exact R) (j2p _) j)
 have HI:=J6 (fun (z:World) (hb:Bl w z)=>z9C s l.D.length t (inC l.D) z (by obtain⟨B,D,e,R,-⟩:=z3b (h2.over hb) (z0h l.D) (by decide);cases e;exact R) (z8v _) y)
 clear h1 h2 R1 x j y;generalize l.g=lg at *;generalize l.cl=lc at *;have L:=(CAt.new 48 w #[J1 q l.S.length r,J1 s l.D.length t,J I lg,J3 lc]).alloc (J5 Z4' 48);have R0:=CAt.new2 48 w (J5 #[J1 q l.S.length r,J1 s l.D.length t,J I lg,J3 lc] 48) Z4';have b0:Bl w ((w.alloc (J5 #[J1 q l.S.length r,J1 s l.D.length t,J I lg,J3 lc] 48)).alloc (J5 Z4' 48)):=(znw w _).alloc (by simp) _
 go_enter func41,ntmps41
 go_upto_region 1 with fail
 change Code.wp prog _ _ _ ((w.alloc (J5 #[J1 q l.S.length r,J1 s l.D.length t,J I lg,J3 lc] 48)).alloc (J5 Z4' 48));generalize (w.alloc (J5 #[J1 q l.S.length r,J1 s l.D.length t,J I lg,J3 lc] 48)).alloc (J5 Z4' 48)=w0 at *;have a0:w0.cell? ⟨w.heap.size,0,none⟩=some (J1 q l.S.length r):=L.cell 0;have k:=J6 (show _/\_/\_ from⟨L,R0,b0⟩);have M:=R0.lt;clear L R0 b0
 go_upto_region 2 with (go_at_call 66;refine (HT.out _ k.out.2.2).mono ?_;rintro e w1⟨f,i,rfl,W,j⟩;have A:=k.out.1.over j;have f1:=A.free 0;have y1:w1.cell? ⟨w.heap.size,0,none⟩=some (J1 q l.S.length r):=A.cell 0;have a1:=A.lt;have n:=J6 (show _/\_ from⟨W,j⟩);clear a0 W j)
 have N:=A.set 0 (J1 f l.S.length i);have x:=((k.out.2.1.over n.out.2).other (c:=w.heap.size) (o:=0) (by omega) (J1 f l.S.length i))
 have C:=zbt k.out.2.2 n.out.2;have b2:=C.setCell (p:=⟨w.heap.size,0,none⟩) (Nat.le_refl _) (J1 f l.S.length i);have Q:=n.out.1.sets (g:=w.heap.size) (fun h=>by omega) 0 [J1 f l.S.length i]
 change z1v _ _ (w1.setCell ⟨w.heap.size,0,none⟩ (J1 f l.S.length i)) _ _ _ _ at Q;clear y1 f1 A k;generalize w1.setCell ⟨w.heap.size,0,none⟩ (J1 f l.S.length i)=w2 at *;have a2:w2.cell? ⟨w.heap.size,1,none⟩=some (J1 s l.D.length t):=N.cell 1;have k:=J6 (show _/\_/\_/\_ from⟨N,x,b2,Q⟩);have T:=x.lt;have a3:w.heap.size+2<=w0.heap.size:=M;clear N x b2 Q C n
 go_upto_region 3 with (go_at_call 40;refine (HI.out _ k.out.2.2.1).mono ?_;rintro e G⟨a,d,rfl,X,u⟩;have E:=k.out.1.over u;have f3:=E.free 1;have y3:G.cell? ⟨w.heap.size,1,none⟩=some (J1 s l.D.length t):=E.cell 1;have a4:=E.lt;have m:=J6 (show _/\_ from⟨X,u⟩);clear a2 X u)
 have Y:=E.set 1 (J1 a l.D.length d);have H:=((k.out.2.1.over m.out.2).other (c:=w.heap.size) (o:=1) (by omega) (J1 a l.D.length d))
 have Z:=(zbt k.out.2.2.1 m.out.2).setCell (p:=⟨w.heap.size,1,none⟩) (Nat.le_refl _) (J1 a l.D.length d);have U:=m.out.1.sets (g:=w.heap.size) (fun h=>by omega) 1 [J1 a l.D.length d]
 have V:=((k.out.2.2.2.over m.out.2).sets (g:=w.heap.size) (fun h=>by omega) 1 [J1 a l.D.length d])
 change z1v _ _ (G.setCell ⟨w.heap.size,1,none⟩ (J1 a l.D.length d)) _ _ _ _ at U;change z1v _ _ (G.setCell ⟨w.heap.size,1,none⟩ (J1 a l.D.length d)) _ _ _ _ at V;clear y3 f3 E;generalize G.setCell ⟨w.heap.size,1,none⟩ (J1 a l.D.length d)=w4 at *;have a5:=H.lt;have s0:w.heap.size+2<=w2.heap.size:=T;have F:CAt 48 w4 w.heap.size #[J1 f l.S.length i,J1 a l.D.length d,J I lg,J3 lc]:=Y;have l4:=z5n F.range rfl;have s4:=z8b (w:=w4) (g:=w.heap.size+1) (o:=0) (cs:=[J1 f l.S.length i,J1 a l.D.length d,J I lg,J3 lc]) (H.there 0 _ (Nat.le_refl _)) rfl (by simp[Value.oneCell'])
 have R5:CAt 48 (w4.setCells (w.heap.size+1) 0 [J1 f l.S.length i,J1 a l.D.length d,J I lg,J3 lc]) (w.heap.size+1) #[J1 f l.S.length i,J1 a l.D.length d,J I lg,J3 lc]:=H.z0t (ds:=#[J1 f l.S.length i,J1 a l.D.length d,J I lg,J3 lc]) rfl;have b5:=z0a (b:=w.heap.size+1) (Nat.le_succ _) [J1 f l.S.length i,J1 a l.D.length d,J I lg,J3 lc] 0 _ Z;have U5:=U.sets (g:=w.heap.size+1) (fun h=>by omega) 0 [J1 f l.S.length i,J1 a l.D.length d,J I lg,J3 lc]
 have V5:=V.sets (g:=w.heap.size+1) (fun h=>by omega) 0 [J1 f l.S.length i,J1 a l.D.length d,J I lg,J3 lc]
 have K:=J6 (show _/\_/\_/\_ from⟨R5,b5,(U5.mono (P':=fun b=>w.heap.size+2<=b) fun b _ hb=>by omega).c,(V5.mono (P':=fun b=>w.heap.size+2<=b) fun b _ hb=>by omega).c⟩)
 change (z2i (J2 (some ⟨w.heap.size,0,none⟩))).run prog w4=.ok (J4 #[J1 f l.S.length i,J1 a l.D.length d,J I lg,J3 lc]) w4 at l4;change (z2K (J2 (some ⟨w.heap.size+1,0,none⟩)) (J4 #[J1 f l.S.length i,J1 a l.D.length d,J I lg,J3 lc])).run prog w4=_ at s4;generalize w4.setCells (w.heap.size+1) 0 [J1 f l.S.length i,J1 a l.D.length d,J I lg,J3 lc]=w5 at *;clear Y F H Z U V R5 b5 U5 V5 k m;go_wp2;exact bodyPost_ret (v:=J4 #[J1 f l.S.length i,J1 a l.D.length d,J I lg,J3 lc]) (results_cell_row results41 _ _ (w.heap.size+1) 48 _ (0,0) _ rfl K.out.1 underlying48 rfl (by kernel_rfl)) rfl ⟨_,_,rfl,K.out.2.2.2,K.out.2.2.1,K.out.2.1⟩
theorem q0I(g o:Nat)(ty:TypeId)(cs:Array Value)(S:List (Int×Int))(c:List Int)(v1 v2:Value)(P:Nat->Prop)(w:World)(m:CAt ty w g cs)(G:cs[o+4]?=some v1)(t:cs[o+5]?=some v2)(h1:Rep P w v1 2 16 (pwC S))(h2:Rep P w v2 1 8 (inC c))(V:¬ P g) :
  Calls prog 43 #[J2 (some ⟨g,o,none⟩)] w fun e w'=>∃ u1 u2,e=.returned (.tuple #[])/\CAt ty w' g ((cs.setIfInBounds (o+4) u1).setIfInBounds (o+5) u2)/\z1v 65 (fun b=>w.heap.size<=b) w' u1 2 16 (pwC S)/\z1v 3 (fun b=>w.heap.size<=b) w' u2 1 8 (inC c)/\Alt g w w':=by
 obtain⟨u,v,rfl,H,a⟩:=row_of h1 (z0c S) (by decide)
 obtain⟨x,y,rfl,W,j⟩:=row_of h2 (z0h c) (by decide)
 have X:=J6 (z6R u S.length v (pwC S) w H (z2X _) a);have Y:=J6 (fun (K:World) (L:Alt g w K)=>z9C x c.length y (inC c) K (by obtain⟨B,D,e,R,-⟩:=row_of (L.rep V h2) (z0h c) (by decide);cases e;exact R) (z8v _) j)
 have z:=m.lt;have M:w.cell? ⟨g,o+4,none⟩=some (J1 u S.length v):=(m.cell _).trans G;have Z:=J6 m;have h5:o+5<cs.size:=(Array.getElem?_eq_some_iff.1 t).1;have H5:=J6 t;clear h1 h2 H W a j m G t
 go_enter func43,ntmps43
 go_upto_region 1 with (go_at_call 39;refine X.out.mono ?_;rintro e w1⟨n,q,rfl,N,a⟩;have r:=Z.out.over a;have f1:=r.free (o+4);have y1:w1.cell? ⟨g,o+4,none⟩=some (J1 u S.length v):=(by have:=a.cell (p:=⟨g,o+4,none⟩) z;rw[this];exact M);have a0:=r.lt;have f:=J6 (show _/\_ from⟨N,a⟩);clear N a)
 have s:=r.set (o+4) (J1 n S.length q);have k:Alt g w (w1.setCell ⟨g,o+4,none⟩ (J1 n S.length q)):=(Alt.of (g:=g) f.out.2).set _ _;have Q:=((Alt.refl g w1).set (o+4) (J1 n S.length q)).q1M (P:=fun b=>w.heap.size<=b) (fun h=>by omega) f.out.1
 clear y1 f1 M r;generalize w1.setCell ⟨g,o+4,none⟩ (J1 n S.length q)=w2 at *;have a5:w2.cell? ⟨g,o+5,none⟩=some (J1 x c.length y):=by rw[s.cell,Array.getElem?_setIfInBounds_ne (by omega)];exact H5.out
 have A:=s.lt;have l:=J6 (show _/\_/\_ from⟨s,k,Q⟩);clear s k Q f
 go_wp2_with (go_at_call 40;refine (Y.out _ l.out.2.1).mono ?_;rintro e T⟨C,E,rfl,U,d⟩;have F:=l.out.1.over d;have f3:=F.free (o+5);have y3:T.cell? ⟨g,o+5,none⟩=some (J1 x c.length y):=(by have:=d.cell (p:=⟨g,o+5,none⟩) A;rw[this];exact a5);have a1:=F.lt;have i:=J6 (show _/\_ from⟨U,d⟩);clear U d)
 go_end0;have L:=l.out.2.1.size;refine⟨_,_,rfl,F.set (o+5) (J1 C c.length E),?_,?_,l.out.2.1.trans ((Alt.of (g:=g) i.out.2).set _ _)⟩
 ·exact ((Alt.of (g:=g) i.out.2).set (o+5) (J1 C c.length E)).q1M (P:=fun b=>w.heap.size<=b) (fun h=>by omega) l.out.2.2
 ·exact (((Alt.refl g T).set (o+5) (J1 C c.length E)).q1M (P:=fun b=>w2.heap.size<=b) (fun h=>by omega) i.out.1).mono fun b _ hb=>by omega
end Wd
namespace Wd
open Go.RowKit Pv Kc
structure z4N(P:Nat->Prop)(B g:Nat)(w:World)(q:List Pkt)(z:List (Value×Value))(k:Nat):Prop where
 len:z.length=q.length
 new:∀ (i:Nat) (x:Pkt) (y:Value×Value),i<k->q[i]?=some x->z[i]?=some y->z1v 65 (fun b=>B<=b/\b≠g) w y.1 2 16 (pwC x.S)/\z1v 3 (fun b=>B<=b/\b≠g) w y.2 1 8 (inC x.D)
 old:∀ (i:Nat) (x:Pkt) (y:Value×Value),k<=i->q[i]?=some x->z[i]?=some y->Rep P w y.1 2 16 (pwC x.S)/\Rep P w y.2 1 8 (inC x.D)
theorem z4N.keep{P:Nat->Prop}{B g:Nat}{w w':World}{q:List Pkt}{z:List (Value×Value)}{k:Nat}(h:z4N P B g w q z k)(f:∀ b,b<w.heap.size->(P b∨(B<=b/\b≠g))->w'.heap[b]?=w.heap[b]?):z4N P B g w' q z k:=
 ⟨h.len,fun i x y c d e=>⟨(h.new i x y c d e).1.keep fun b hb a=>f b a (.inr hb),(h.new i x y c d e).2.keep fun b hb a=>f b a (.inr hb)⟩,fun i x y c d e=>⟨(h.old i x y c d e).1.keep fun b hb a=>f b a (.inl hb),(h.old i x y c d e).2.keep fun b hb a=>f b a (.inl hb)⟩⟩
theorem z4N.step{P:Nat->Prop}{B g:Nat}{w w':World}{q:List Pkt}{z:List (Value×Value)}{k:Nat}(h:z4N P B g w q z k){x:Pkt}(c:q[k]?=some x){u1 u2:Value}(h1:z1v 65 (fun b=>w.heap.size<=b) w' u1 2 16 (pwC x.S))(h2:z1v 3 (fun b=>w.heap.size<=b) w' u2 1 8 (inC x.D))(o:B<=w.heap.size)(r:g<w.heap.size)(f:Alt g w w')(j:¬ P g):z4N P B g w' q (z.set k (u1,u2)) (k+1):=by
 have d:=h.keep (w':=w') fun b l hb=>f.block b l fun e=>by
  rcases hb with hb | hb
  ·exact j (e ▸ hb)
  ·exact hb.2 e
 refine⟨by rw[List.length_set];exact h.len,fun i y p m a hp=>?_,fun i y p m a hp=>?_⟩
 ·by_cases e:i=k
  ·subst e;rw[c]at a;cases a;have n:i<z.length:=by have:=(List.getElem?_eq_some_iff.1 c).1;have:=h.len;omega
   rw[List.getElem?_set_self n]at hp;cases hp;exact⟨h1.mono fun b _ hb=>⟨by omega,by omega⟩,h2.mono fun b _ hb=>⟨by omega,by omega⟩⟩
  ·rw[List.getElem?_set_ne (by omega)]at hp
   exact d.new i y p (by omega) a hp
 ·rw[List.getElem?_set_ne (by omega)]at hp
  exact d.old i y p (by omega) a hp
def z5R(P:Nat->Prop)(w:World)(v:Value)(q:List Pkt):Prop:=
 ∃ z:List (Value×Value),z.length=q.length/\z1v 68 P w v 6 40 (pdL q z)/\∀ (i:Nat) (x:Pkt) (y:Value×Value),q[i]?=some x->z[i]?=some y->z1v 65 P w y.1 2 16 (pwC x.S)/\z1v 3 P w y.2 1 8 (inC x.D)
structure z7N(P:Nat->Prop)(w:World)(c:Cs)(v:CsV):Prop where
 set:z1v 65 P w v.set 2 16 (pwC c.set)
 pd:z5R P w v.pd c.pd
 rp:z1v 79 P w v.rp 2 8 (pwC c.rp)
 said:z3Q 9 P w v.said 1 16 (txC c.out.S)
 due:z3Q 3 P w v.due 1 8 (inC c.out.D)
section
variable {P P':Nat->Prop} {w w':World}
theorem z5R.rep{v:Value}{q:List Pkt}(h:z5R P w v q):z6S P w v q:=by
 obtain⟨z,h1,h2,h3⟩:=h;exact⟨z,h1,h2.rep,fun i x y a b=>⟨(h3 i x y a b).1.rep,(h3 i x y a b).2.rep⟩⟩
theorem z5R.mono{v:Value}{q:List Pkt}(h:z5R P w v q)(hp:∀ b,b<w.heap.size->P b->P' b):z5R P' w v q:=by
 obtain⟨z,h1,h2,h3⟩:=h;exact⟨z,h1,h2.mono hp,fun i x y a c=>⟨(h3 i x y a c).1.mono hp,(h3 i x y a c).2.mono hp⟩⟩
theorem z5R.keep{v:Value}{q:List Pkt}(h:z5R P w v q)(a:∀ b,P b->b<w.heap.size->w'.heap[b]?=w.heap[b]?):z5R P w' v q:=by
 obtain⟨z,h1,h2,h3⟩:=h;exact⟨z,h1,h2.keep a,fun i x y c d=>⟨(h3 i x y c d).1.keep a,(h3 i x y c d).2.keep a⟩⟩
theorem z5R.over{v:Value}{q:List Pkt}(h:z5R P w v q)(hb:Bl w w'):z5R P w' v q:=h.keep fun b _ a=>hb.block b a
theorem z7N.rep{c:Cs}{v:CsV}(h:z7N P w c v):CIn P w c v:=⟨h.set.rep,h.pd.rep,h.rp.rep,h.said.rep,h.due.rep⟩
theorem z7N.mono{c:Cs}{v:CsV}(h:z7N P w c v)(hp:∀ b,b<w.heap.size->P b->P' b):z7N P' w c v:=⟨h.set.mono hp,h.pd.mono hp,h.rp.mono hp,h.said.mono hp,h.due.mono hp⟩
theorem z7N.keep{c:Cs}{v:CsV}(h:z7N P w c v)(a:∀ b,P b->b<w.heap.size->w'.heap[b]?=w.heap[b]?):z7N P w' c v:=⟨h.set.keep a,h.pd.keep a,h.rp.keep a,h.said.keep a,h.due.keep a⟩
theorem z7N.sets{c:Cs}{v:CsV}(h:z7N P w c v){g:Nat}(d:¬ P g)(o:Nat)(a:List Value):z7N P (w.setCells g o a) c v:=h.keep fun b hb _=>z0M (show b≠g from fun e=>d (by rw[<- e];exact hb)) a o w
end
structure PdV(w:World)(c:Cs)(v:CsV)(P:Nat->Prop)(A:Option Addr)(C:Nat)(k:Nat)(wl:World):Prop where
 half:∃ v' z,v'={ v with set:=v'.set,pd:=J1 A c.pd.length C }/\(∃ X n D,v'.set=J1 X n D)/\CAt 75 wl w.heap.size (csC c v')/\wl.ownsRow (w.heap.size+2) 68 6 (J1 A c.pd.length C) c.pd.length (pdL c.pd z)/\(∀ g,A=some ⟨g,0,none⟩->z4N (fun b=>P b/\b<w.heap.size) (w.heap.size+2) g wl c.pd z k/\z1v 65 (fun b=>w.heap.size+2<=b/\b≠g) wl v'.set 2 16 (pwC c.set))/\z1v 65 (fun b=>w.heap.size+2<=b) wl v'.set 2 16 (pwC c.set)
 res:CAt 75 wl (w.heap.size+1) Z22
 bel:Bl w wl
attribute [local go_sem ↓] z1r z1j z1Z z1y
theorem q9U(c:Cs)(v:CsV)(P:Nat->Prop)(w:World)(hp:CIn P w c v)(c9:c.pd.length * 80<=140737488351232)(d0:c.rp.length * 16<=140737488351232) :
  Calls prog 27 #[J4 (csC c v)] w fun e w'=>∃ v',e=.returned (J4 (csC c v'))/\z7N (fun b=>w.heap.size+2<=b) w' c v'/\Bl w w':=by
 have hp':CIn (fun b=>P b/\b<w.heap.size) w c v:=hp.mono fun b hl hb=>⟨hb,hl⟩;obtain⟨z,hz,V,E⟩:=id hp'.pd;obtain⟨A1,C1,e1,-,-⟩:=row_of hp'.set (z0c c.set) (by decide)
 obtain⟨A2,C2,e2,-,-⟩:=row_of V (z0W c.pd z hz) (by decide)
 obtain⟨A3,C3,e3,-,-⟩:=row_of hp'.rp (z0c c.rp) (by decide)
 have HS:=J6 (fun (n:World) (hb:Bl w n)=>z6R A1 c.set.length C1 (pwC c.set) n (by obtain⟨B,D,e,R,-⟩:=row_of (hp'.set.over hb) (z0c c.set) (by decide);rw[e1]at e;cases e;exact R) (z2X _) (by obtain⟨_,_,_,_,h⟩:=row_of hp'.set (z0c c.set) (by decide);exact h))
 have HK:=J6 (fun (n:World) (hb:Bl w n)=>z8x A2 c.pd.length C2 (pdL c.pd z) n (by obtain⟨B,D,e,R,-⟩:=row_of (V.over hb) (z0W c.pd z hz) (by decide);rw[e2]at e;cases e;exact R) (q7e c.pd z E) c9)
 have HR:=J6 (fun (n:World) (hb:Bl w n)=>j0N A3 c.rp.length C3 (pwC c.rp) n (by obtain⟨B,D,e,R,-⟩:=row_of (hp'.rp.over hb) (z0c c.rp) (by decide);rw[e3]at e;cases e;exact R) (z2X _) d0)
 have HL:=J6 (fun (n:World) (hb:Bl w n)=>q2X c.out v.said v.due _ n (hp'.said.over hb) (hp'.due.over hb));have b5:Hid (∀ g n,w.heap.size<=g->Bl w n->z4N (fun b=>P b/\b<w.heap.size) (w.heap.size+2) g n c.pd z 0):=fun g n W hb=>⟨hz,fun i x y hi=>by omega,fun i x y _ j u=>⟨(E i x y j u).1.over hb,(E i x y j u).2.over hb⟩⟩
 have K0:z7X w c v ((w.alloc (J5 (csC c v) 75)).alloc (J5 Z22 75)):=⟨(CAt.new _ w _).alloc _,CAt.new2 _ w _ _,(znw w _).alloc (by simp) _⟩
 clear hp hp' V E
 go_enter func27,ntmps27
 go_upto_region 1 with fail
 change Code.wp prog _ _ _ ((w.alloc (J5 (csC c v) 75)).alloc (J5 Z22 75));generalize (w.alloc (J5 (csC c v) 75)).alloc (J5 Z22 75)=w0 at *;have a5:w0.cell? ⟨w.heap.size,5,none⟩=some (J1 A1 c.set.length C1):=by rw[<- e1];exact K0.cat.cell 5
 have Y:=J6 K0;have d9:w.heap.size+2<=w0.heap.size:=K0.res.lt;clear K0
 go_upto_region 2 with (go_at_call 39;refine (HS.out _ Y.out.bel).mono ?_;rintro e w1⟨B1,D1,rfl,U1,Z⟩;have K1:=Y.out.over Z;have f1:=K1.cat.free 5;have y1:w1.cell? ⟨w.heap.size,5,none⟩=some v.set:=K1.cat.cell 5;have e6:=K1.cat.lt;have a0:=J6 (show _/\_ from⟨U1,Z.size⟩);clear a5 U1 Z)
 have K2:=K1.set 5 (J1 B1 c.set.length D1) (v':={ v with set:=J1 B1 c.set.length D1 }) rfl
 have U2:=((Alt.refl w.heap.size w1).set 5 (J1 B1 c.set.length D1)).q1M (P:=fun b=>w0.heap.size<=b) (fun h=>by omega) a0.out.1
 have e7:=a0.out.2;clear y1 f1 K1 a0 Y;generalize w1.setCell ⟨w.heap.size,5,none⟩ (J1 B1 c.set.length D1)=w2 at *;have HE:=J6 (show _/\_/\_ from⟨e1,e2,e3⟩);have a6:w2.cell? ⟨w.heap.size,6,none⟩=some (J1 A2 c.pd.length C2):=by rw[<- e2];exact K2.cat.cell 6
 have F:=J6 (show _/\_ from⟨K2,U2⟩);have e8:w.heap.size+2<=w2.heap.size:=K2.res.lt;clear K2 U2 e1 e2 e3
 go_upto_region 3 with (go_at_call 44;refine (HK.out _ F.out.1.bel).mono ?_;rintro e w3⟨d,a,rfl,U3,a3⟩;have K3:=F.out.1.over a3;have f3:=K3.cat.free 6;have y3:w3.cell? ⟨w.heap.size,6,none⟩=some v.pd:=K3.cat.cell 6;have e9:=K3.cat.lt;have p:=J6 (show _/\_ from⟨U3,a3⟩);clear a6 U3 a3)
 have K4:=K3.set 6 (J1 d c.pd.length a) (v':={ v with set:=J1 B1 c.set.length D1,pd:=J1 d c.pd.length a }) rfl
 have A4:Alt w.heap.size w3 (w3.setCell ⟨w.heap.size,6,none⟩ (J1 d c.pd.length a)):=(Alt.refl _ _).set 6 _;have V4:=A4.q1M (P:=fun b=>w0.heap.size<=b/\b<w2.heap.size) (fun h=>by omega) ((F.out.2.mono (P':=fun b=>w0.heap.size<=b/\b<w2.heap.size) fun b hl hb=>⟨hb,hl⟩).over p.out.2)
 have C:(w3.setCell ⟨w.heap.size,6,none⟩ (J1 d c.pd.length a)).ownsRow (w.heap.size+2) 68 6 (J1 d c.pd.length a) c.pd.length (pdL c.pd z):=z2N (z1c p.out.1 fun k hk=>A4.block k (World.ownsRow.lt p.out.1 k hk).2 (by have:=(World.ownsRow.lt p.out.1 k hk).1;omega)) (by omega)
 have a4:∀ g,d=some ⟨g,0,none⟩->w2.heap.size<=g:=fun g W=>(World.ownsRow.lt p.out.1 g (by rw[W];rfl)).1
 have b6:Hid (PdV w c v P d a 0 (w3.setCell ⟨w.heap.size,6,none⟩ (J1 d c.pd.length a))):=⟨⟨_,z,rfl,⟨_,_,_,rfl⟩,K4.cat,C,fun g W=>⟨b5.out g _ (by have:=a4 g W;omega) K4.bel,V4.mono fun b _ hb=>⟨by omega,by have:=a4 g W;omega⟩⟩,V4.mono fun b _ hb=>by omega⟩,K4.res,K4.bel⟩
 have a6:(w3.setCell ⟨w.heap.size,6,none⟩ (J1 d c.pd.length a)).cell? ⟨w.heap.size,6,none⟩=some (J1 d c.pd.length a):=K4.cat.cell 6;have f4:=K4.cat.lt;clear y3 f3 K3 K4 A4 V4 C a4 p F b5 HS HK;generalize w3.setCell ⟨w.heap.size,6,none⟩ (J1 d c.pd.length a)=w4 at *
 go_upto_region 4 with fail
 go_loopw [15] (fun i wl=>∃ (k:Nat),k<=c.pd.length/\i=.int .i64 (k:Int)/\Hid (PdV w c v P d a k wl)) (fun i _=>c.pd.length - (intOf i).toNat)
 case atStart=>exact⟨0,Nat.zero_le _,rfl,b6⟩
 case round =>
  obtain⟨k,hk,rfl,f⟩:=hrel;clear b6 a6;obtain⟨v',Q,G,b7,H,C,K,hV⟩:=f.out.half
  by_cases T:k<c.pd.length
  ·obtain⟨U,a7,rfl,d1,Cq,d2,d3,c4,L⟩:=z4e C (by omega)
   obtain⟨M,a8⟩:=K U rfl;have j:c.pd[k]?=some c.pd[k]:=List.getElem?_eq_getElem T;have d4:k<Q.length:=by have:=M.len;omega
   have u:Q[k]?=some Q[k]:=List.getElem?_eq_getElem d4;generalize c.pd[k]=xk at j;generalize Q[k]=yk at u;have e4:=z3n L ((z4m c.pd Q k xk yk 4 j u (by omega)).trans rfl)
   have e5:=z3n L ((z4m c.pd Q k xk yk 5 j u (by omega)).trans rfl)
   obtain⟨o1,o2⟩:=M.old k xk yk (Nat.le_refl _) j u;have d5:=Cq.lt;have d6:=J6 (q0I U (k * 6) 68 a7 xk.S xk.D yk.1 yk.2 _ wr Cq e4 e5 o1 o2 (fun h=>by omega))
   have x6:wr.cell? ⟨w.heap.size,6,none⟩=some (J1 (some ⟨U,0,none⟩) c.pd.length a):=by rw[G]at H;exact H.cell 6
   have d7:=H.lt;have f6:(k:Int)<(c.pd.length:Int):=by omega
   have HN:Hid (∀ u1 u2 w5,CAt 68 w5 U ((a7.setIfInBounds (k * 6+4) u1).setIfInBounds (k * 6+5) u2)->z1v 65 (fun b=>wr.heap.size<=b) w5 u1 2 16 (pwC xk.S)->z1v 3 (fun b=>wr.heap.size<=b) w5 u2 1 8 (inC xk.D)->Alt U wr w5->PdV w c v P (some ⟨U,0,none⟩) a (k+1) w5):=fun u1 u2 w5 hc h1 h2 ha=>by
    have d8:w.heap.size+2<=wr.heap.size:=f.out.res.lt;have O5:=z6M (base:=w.heap.size+2) C.1 d1 d2 d3 c4 L (k * 6+4) (k * 6+5) u1 u2 hc;rw[z9K c.pd Q k u1 u2 M.len T]at O5;refine⟨⟨v',_,G,b7,ha.cat (by omega) H,O5,fun g W=>?_,?_⟩,ha.cat (by omega) f.out.res,f.out.bel.trans (ha.below (by omega) f.out.bel.size)⟩
    ·cases W;exact⟨M.step j h1 h2 d8 d5 ha (fun h=>by omega),ha.q1M (fun h=>h.2 rfl) a8⟩
    ·exact (ha.q1M (fun h=>h.2 rfl) a8).mono fun b _ hb=>hb.1
   clear C K hV H Cq M a8 j u e4 e5 o1 o2 L c4
   go_wp2_with (go_at_call 43;refine d6.out.mono ?_;rintro e w5⟨u1,u2,rfl,c5,c6,c7,c8⟩;have HM:=J6 (HN.out u1 u2 w5 c5 c6 c7 c8);clear c5 c6 c7 c8)
   exact⟨⟨k+1,by omega,by go_num,HM⟩,by simp[intOf];omega⟩
  ·obtain rfl:k=c.pd.length:=by omega
   have KR:z5R (fun b=>w.heap.size+2<=b) wr (J1 d c.pd.length a) c.pd:=by
    by_cases h0:0<c.pd.length
    ·obtain⟨U,a7,rfl,-⟩:=z4e C h0;obtain⟨M,-⟩:=K U rfl;exact⟨Q,M.len,z1v.own C (by omega),fun i x y j u=>⟨(M.new i x y (List.getElem?_eq_some_iff.1 j).1 j u).1.mono fun b _ hb=>hb.1,(M.new i x y (List.getElem?_eq_some_iff.1 j).1 j u).2.mono fun b _ hb=>hb.1⟩⟩
    ·have e0:c.pd=[]:=List.length_eq_zero_iff.1 (by omega)
     have R:=z1v.own (bts:=40) C (by omega)
     rw[e0]at R ⊢;exact⟨[],rfl,R,fun i x y j=>by cases j⟩
   obtain⟨sv,pv,rv,sd,du⟩:=v';simp only[CsV.mk.injEq,true_and]at G;obtain⟨rfl,rfl,rfl,rfl⟩:=G;obtain⟨X,q,r,rfl⟩:=b7;have x6:wr.cell? ⟨w.heap.size,6,none⟩=some (J1 d c.pd.length a):=H.cell 6;have x7:wr.cell? ⟨w.heap.size,7,none⟩=some (J1 A3 c.rp.length C3):=by rw[<- HE.out.2.2];exact H.cell 7
   have KX:z7X w c ⟨J1 X q r,J1 d c.pd.length a,v.rp,v.said,v.due⟩ wr:=⟨H,f.out.res,f.out.bel⟩;have d7:w.heap.size+2<=wr.heap.size:=f.out.res.lt;have t:=J6 (show _/\_/\_ from⟨KX,KR,hV⟩);clear KX KR hV H C K f
   go_upto_region 9 with (go_at_call 45;refine (HR.out _ t.out.1.bel).mono ?_;rintro e w5⟨l,m,rfl,U5,a9⟩;have K5:=t.out.1.over a9;have f5:=K5.cat.free 7;have y5:w5.cell? ⟨w.heap.size,7,none⟩=some v.rp:=K5.cat.cell 7;have f7:=K5.cat.lt;have N:=J6 (show _/\_ from⟨U5,a9⟩);clear x6 x7 U5 a9)
   have K6:=K5.set 7 (J1 l c.rp.length m) (v':=⟨J1 X q r,J1 d c.pd.length a,J1 l c.rp.length m,v.said,v.due⟩) rfl;have A6:Alt w.heap.size w5 (w5.setCell ⟨w.heap.size,7,none⟩ (J1 l c.rp.length m)):=(Alt.refl _ _).set 7 _;have U6:=((A6.q1M (P:=fun b=>wr.heap.size<=b) (fun h=>by omega) N.out.1).less (b:=8) (by omega)).mono (P':=fun b=>w.heap.size+2<=b) fun b _ hb=>by omega
   have V6:=A6.q1M (P:=fun b=>w.heap.size+2<=b) (fun h=>by omega) (t.out.2.2.over N.out.2)
   have R6:=(t.out.2.1.over N.out.2).keep (w':=w5.setCell ⟨w.heap.size,7,none⟩ (J1 l c.rp.length m)) fun b hb hl=>A6.block b hl (by omega)
   clear y5 f5 K5 A6 N t;generalize w5.setCell ⟨w.heap.size,7,none⟩ (J1 l c.rp.length m)=w6 at *;have l6:=z5n ((z4Q c ⟨J1 X q r,J1 d c.pd.length a,J1 l c.rp.length m,v.said,v.due⟩ c.out v.said v.due).part K6.cat) rfl;change (z2i (J2 (some ⟨w.heap.size,14,none⟩))).run prog w6=.ok (J4 #[v.said,v.due,.int .i64 c.out.g,J3 c.out.cl]) w6 at l6;have f8:w.heap.size+2<=w6.heap.size:=K6.res.lt;have t:=J6 (show _/\_/\_/\_ from⟨K6,V6,R6,U6⟩);clear K6 V6 R6 U6 HR
   go_upto_region 10 with (go_at_call 41;refine (HL.out _ t.out.1.bel).mono ?_;rintro e w7⟨u1,u2,rfl,U7,V7,b4⟩;have K7:=t.out.1.over b4;have s7:=z8b (w:=w7) (g:=w.heap.size) (o:=14) (cs:=[u1,u2,.int .i64 c.out.g,J3 c.out.cl]) ((z4Q c ⟨J1 X q r,J1 d c.pd.length a,J1 l c.rp.length m,v.said,v.due⟩ c.out u1 u2).there K7.cat) rfl (by have a1:=U7.one;have a2:=V7.one;simp only[List.all_cons,List.all_nil,a1,a2];rfl);change (z2K (J2 (some ⟨w.heap.size,14,none⟩)) (J4 #[u1,u2,.int .i64 c.out.g,J3 c.out.cl])).run prog w7=_ at s7;have s:=J6 (show _/\_/\_ from⟨U7,V7,b4⟩);have A:=J6 K7;clear l6 U7 V7 b4 K7)
   have f9:=A.out.res.lt;have C8:=(z4Q c ⟨J1 X q r,J1 d c.pd.length a,J1 l c.rp.length m,v.said,v.due⟩ c.out u1 u2).sets A.out.cat;change CAt 75 (w7.setCells w.heap.size 14 [u1,u2,.int .i64 c.out.g,J3 c.out.cl]) w.heap.size (csC c ⟨J1 X q r,J1 d c.pd.length a,J1 l c.rp.length m,u1,u2⟩) at C8;have A8:Alt w.heap.size w7 (w7.setCells w.heap.size 14 [u1,u2,.int .i64 c.out.g,J3 c.out.cl]):=Alt.sets _ (Alt.refl _ _) 14;have R8:=A8.cat (by omega) A.out.res
   have b8:=z0a (b:=w.heap.size) (Nat.le_refl _) [u1,u2,.int .i64 c.out.g,J3 c.out.cl] 14 _ A.out.bel
   have I8:z7N (fun b=>w.heap.size+2<=b) (w7.setCells w.heap.size 14 [u1,u2,.int .i64 c.out.g,J3 c.out.cl]) c ⟨J1 X q r,J1 d c.pd.length a,J1 l c.rp.length m,u1,u2⟩:=
    z7N.sets ⟨t.out.2.1.over s.out.2.2,t.out.2.2.1.over s.out.2.2,t.out.2.2.2.over s.out.2.2,s.out.1.mono fun b _ hb=>by omega,s.out.2.1.mono fun b _ hb=>by omega⟩ (by omega) _ _
   clear A8 t s A s7;generalize w7.setCells w.heap.size 14 [u1,u2,.int .i64 c.out.g,J3 c.out.cl]=w8 at *;have l8:=z2p C8 (z0i _ _);have s8:=z1C R8 z0p (z0i c ⟨J1 X q r,J1 d c.pd.length a,J1 l c.rp.length m,u1,u2⟩) (z1E I8.rep);have R9:=R8.z0t (ds:=csC c ⟨J1 X q r,J1 d c.pd.length a,J1 l c.rp.length m,u1,u2⟩) (by rw[z0p];rfl)
   have b9:=z0a (b:=w.heap.size+1) (Nat.le_succ _) (csC c ⟨J1 X q r,J1 d c.pd.length a,J1 l c.rp.length m,u1,u2⟩).toList 0 _ b8;have I9:=I8.sets (g:=w.heap.size+1) (by omega) 0 (csC c ⟨J1 X q r,J1 d c.pd.length a,J1 l c.rp.length m,u1,u2⟩).toList
   have HZ:=J6 (show _/\_/\_ from⟨R9,b9,I9⟩);clear C8 R8 b8 I8 R9 b9 I9;generalize w8.setCells (w.heap.size+1) 0 (csC c ⟨J1 X q r,J1 d c.pd.length a,J1 l c.rp.length m,u1,u2⟩).toList=w9 at *;go_wp2;exact bodyPost_ret (v:=J4 (csC c ⟨J1 X q r,J1 d c.pd.length a,J1 l c.rp.length m,u1,u2⟩)) (z2Y results27 _ _ _ _ rfl HZ.out.1 rfl) rfl ⟨_,rfl,HZ.out.2.2,HZ.out.2.1⟩
end Wd
namespace Wd
open Go.RowKit Pv Kc
structure z4S(P:Nat->Prop)(w:World)(x:Lk)(v:LkV):Prop where
 told:z1v 65 P w v.told 2 16 (pwC x.told)
 done:z1v 3 P w v.done 1 8 (inC x.done)
 said:z3Q 9 P w v.said 1 16 (txC x.out.S)
 due:z3Q 3 P w v.due 1 8 (inC x.out.D)
structure z3X(P:Nat->Prop)(w:World)(p:Pr)(v:PrV):Prop where
 ws:z1v 63 P w v.ws 8 64 (wsL p.s.W)
 set:z1v 65 P w v.set 2 16 (pwC p.set)
 lk:∀ c,c<2->z4S P w (p.L c) (v.l c)
def z8l(P:Nat->Prop)(w:World)(v:Value)(q:List (Int×Pkt)):Prop:=
 ∃ z:List (Value×Value),z.length=q.length/\z1v 70 P w v 7 80 (quL q z)/\∀ (i:Nat) (x:Int×Pkt) (y:Value×Value),q[i]?=some x->z[i]?=some y->z1v 65 P w y.1 2 16 (pwC x.2.S)/\z1v 3 P w y.2 1 8 (inC x.2.D)
structure z9V(P:Nat->Prop)(w:World)(p:Pr)(v:PrV):Prop where
 r:z3X P w p v
 q:z8l P w v.q p.q
section
variable {P P':Nat->Prop} {w w':World}
theorem z4S.rep{x:Lk}{v:LkV}(h:z4S P w x v):z5g P w x v:=⟨h.told.rep,h.done.rep,h.said.rep,h.due.rep⟩
theorem z4S.keep'{x:Lk}{v:LkV}(h:z4S P w x v)(a:∀ b,P b->b<w.heap.size->w'.heap[b]?=w.heap[b]?):z4S P w' x v:=⟨h.told.keep a,h.done.keep a,h.said.keep a,h.due.keep a⟩
theorem z3X.keep{p:Pr}{v:PrV}(h:z3X P w p v)(a:∀ b,P b->b<w.heap.size->w'.heap[b]?=w.heap[b]?):z3X P w' p v:=⟨h.ws.keep a,h.set.keep a,fun c hc=>z4S.keep' (h.lk c hc) a⟩
theorem z3X.mono{p:Pr}{v:PrV}(h:z3X P w p v)(hp:∀ b,b<w.heap.size->P b->P' b):z3X P' w p v:=⟨h.ws.mono hp,h.set.mono hp,fun c hc=>⟨(h.lk c hc).told.mono hp,(h.lk c hc).done.mono hp,(h.lk c hc).said.mono hp,(h.lk c hc).due.mono hp⟩⟩
theorem z8l.rep{v:Value}{q:List (Int×Pkt)}(h:z8l P w v q):q1Q P w v q:=by
 obtain⟨z,h1,h2,h3⟩:=h;exact⟨z,h1,h2.rep,fun i x y a b=>⟨(h3 i x y a b).1.rep,(h3 i x y a b).2.rep⟩⟩
theorem z8l.mono{v:Value}{q:List (Int×Pkt)}(h:z8l P w v q)(hp:∀ b,b<w.heap.size->P b->P' b):z8l P' w v q:=by
 obtain⟨z,h1,h2,h3⟩:=h;exact⟨z,h1,h2.mono hp,fun i x y a c=>⟨(h3 i x y a c).1.mono hp,(h3 i x y a c).2.mono hp⟩⟩
theorem z8l.keep{v:Value}{q:List (Int×Pkt)}(h:z8l P w v q)(a:∀ b,P b->b<w.heap.size->w'.heap[b]?=w.heap[b]?):z8l P w' v q:=by
 obtain⟨z,h1,h2,h3⟩:=h;exact⟨z,h1,h2.keep a,fun i x y c d=>⟨(h3 i x y c d).1.keep a,(h3 i x y c d).2.keep a⟩⟩
theorem z9V.rep{p:Pr}{v:PrV}(h:z9V P w p v):PIn P w p v:=⟨h.r.ws.rep,h.r.set.rep,fun c hc=>(h.r.lk c hc).rep,h.q.rep⟩
theorem z9V.mono{p:Pr}{v:PrV}(h:z9V P w p v)(hp:∀ b,b<w.heap.size->P b->P' b):z9V P' w p v:=⟨h.r.mono hp,h.q.mono hp⟩
theorem z9V.sets{p:Pr}{v:PrV}(h:z9V P w p v){g:Nat}(d:¬ P g)(o:Nat)(a:List Value):z9V P (w.setCells g o a) p v:=
 have c:∀ b,P b->b<w.heap.size->(w.setCells g o a).heap[b]?=w.heap[b]?:=fun b hb _=>z0M (show b≠g from fun e=>d (by rw[<- e];exact hb)) a o w
 ⟨h.r.keep c,h.q.keep c⟩
end
structure LkW(w:World)(p:Pr)(v:PrV)(k:Nat)(wl:World):Prop where
 half:∃ v',v'.q=v.q/\z4G w p v' wl/\z1v 63 (fun b=>w.heap.size+2<=b) wl v'.ws 8 64 (wsL p.s.W)/\z1v 65 (fun b=>w.heap.size+2<=b) wl v'.set 2 16 (pwC p.set)/\(∀ c,c<k->z4S (fun b=>w.heap.size+2<=b) wl (p.L c) (v'.l c))/\∀ c,k<=c->v'.l c=v.l c
theorem LkW.step{w:World}{p:Pr}{v:PrV}{k:Nat}(h:k<2){wl w':World}{v':PrV}(u:LkV)(d:v'.q=v.q)(f:z4G w p (v'.upd k u) w')(h1:z1v 63 (fun b=>w.heap.size+2<=b) wl v'.ws 8 64 (wsL p.s.W))(h2:z1v 65 (fun b=>w.heap.size+2<=b) wl v'.set 2 16 (pwC p.set))(h3:∀ c,c<k->z4S (fun b=>w.heap.size+2<=b) wl (p.L c) (v'.l c))(g:∀ c,k<=c->v'.l c=v.l c)(hu:z4S (fun b=>w.heap.size+2<=b) w' (p.L k) u)(a:∀ b,w.heap.size+2<=b->b<wl.heap.size->w'.heap[b]?=wl.heap[b]?):LkW w p v (k+1) w':=by
 refine⟨⟨v'.upd k u,d,f,h1.keep a,h2.keep a,fun c hc=>?_,fun c hc=>?_⟩⟩
 ·by_cases e:c=k
  ·subst e
   show z4S _ _ _ (if c=c then u else _)
   rw[if_pos rfl];exact hu
  ·show z4S _ _ _ (if c=k then u else _)
   rw[if_neg e];exact z4S.keep' (h3 c (by omega)) a
 ·show (if c=k then u else _)=_
  rw[if_neg (by omega)]
  exact g c (by omega)
structure QuW(w:World)(p:Pr)(P:Nat->Prop)(A:Option Addr)(C:Nat)(k:Nat)(wl:World):Prop where
 half:∃ v' z,v'.q=J1 A p.q.length C/\z4G w p v' wl/\wl.ownsRow (w.heap.size+2) 70 7 (J1 A p.q.length C) p.q.length (quL p.q z)/\(∀ g,A=some ⟨g,0,none⟩->z4N (fun b=>P b/\b<w.heap.size) (w.heap.size+2) g wl (p.q.map (·.2)) z k/\z3X (fun b=>w.heap.size+2<=b/\b≠g) wl p v')/\z3X (fun b=>w.heap.size+2<=b) wl p v'
attribute [local go_sem ↓] z0H z0w z1Z z1y
theorem j1k(p:Pr)(v:PrV)(P:Nat->Prop)(w:World)(hp:PIn P w p v)(f8:p.q.length * 88<=140737488351232) :
  Calls prog 24 #[J4 (prC p v)] w fun e w'=>∃ v',e=.returned (J4 (prC p v'))/\z9V (fun b=>w.heap.size+2<=b) w' p v'/\Bl w w':=by
 have hp':PIn (fun b=>P b/\b<w.heap.size) w p v:=hp.mono fun b t hb=>⟨hb,t⟩;obtain⟨z,hz,N,H⟩:=id hp'.q;obtain⟨A0,C0,h9,i2,e0,-,-,-⟩:=hp'.ws.z9Z;obtain⟨A1,C1,e1,-,-⟩:=row_of hp'.set (z0c p.set) (by decide)
 have f9:p.s.W.length * 64<=140737488351232:=by obtain⟨_,_,_,_,h⟩:=row_of hp'.ws (z1f p.s.W) (by decide);exact h
 have HW:=J6 (fun (m:World) (hb:Bl w m)=>(show Calls prog 38 #[J1 A0 p.s.W.length C0] m fun e w'=>∃ A C,e=.returned (J1 A p.s.W.length C)/\z2d m.heap.size w' A C p.s.W/\Bl m w' from by obtain⟨ao,c,sb,so,c8,hW,-,-⟩:=(hp'.ws.over hb).z9Z;rw[e0]at c8;cases c8;exact z2T A0 p.s.W C0 sb so m hW))
 have HS:=J6 (fun (m:World) (hb:Bl w m)=>z6R A1 p.set.length C1 (pwC p.set) m (by obtain⟨B,D,e,R,-⟩:=row_of (hp'.set.over hb) (z0c p.set) (by decide);rw[e1]at e;cases e;exact R) (z2X _) (by obtain⟨_,_,_,_,h⟩:=row_of hp'.set (z0c p.set) (by decide);exact h))
 have u:=J6 hp';have K0:z4G w p v ((w.alloc (J5 (prC p v) 58)).alloc (J5 zeroCells58 58)):=⟨(CAt.new _ w _).alloc _,CAt.new2 _ w _ _,(znw w _).alloc (by simp) _⟩
 clear hp hp' N H
 go_enter func24,ntmps24
 go_upto_region 1 with fail
 change Code.wp prog _ _ _ ((w.alloc (J5 (prC p v) 58)).alloc (J5 zeroCells58 58));generalize (w.alloc (J5 (prC p v) 58)).alloc (J5 zeroCells58 58)=w0 at *;have g0:w0.cell? ⟨w.heap.size,63,none⟩=some (J1 A0 p.s.W.length C0):=by rw[<- e0];exact K0.cat.cell 63
 have a6:=J6 K0;have i3:w.heap.size+2<=w0.heap.size:=K0.res.lt;clear K0
 go_upto_region 2 with (go_at_call 38;refine (HW.out _ a6.out.bel).mono ?_;rintro e w1⟨B1,D1,rfl,U1,a7⟩;have K1:=a6.out.over a7;have f1:=K1.cat.free 63;have y1:w1.cell? ⟨w.heap.size,63,none⟩=some v.ws:=K1.cat.cell 63;have i4:=K1.cat.lt;have a8:=J6 (show _/\_ from⟨U1,a7.size⟩);clear g0 U1 a7)
 have K2:=K1.set 63 (J1 B1 p.s.W.length D1) (v':={ v with ws:=J1 B1 p.s.W.length D1 }) rfl
 have A2:Alt w.heap.size w1 (w1.setCell ⟨w.heap.size,63,none⟩ (J1 B1 p.s.W.length D1)):=(Alt.refl _ _).set 63 _;have U2:=(A2.q1M (P:=fun b=>w0.heap.size<=b) (fun h=>by omega) (z1v.own (bts:=64) a8.out.1 f9)).mono (P':=fun b=>w.heap.size+2<=b) fun b _ hb=>by omega
 have i5:=a8.out.2;clear y1 f1 K1 a8 a6 A2;generalize w1.setCell ⟨w.heap.size,63,none⟩ (J1 B1 p.s.W.length D1)=w2 at *;have g1:w2.cell? ⟨w.heap.size,65,none⟩=some (J1 A1 p.set.length C1):=by rw[<- e1];exact K2.cat.cell 65
 have a0:=J6 (show _/\_ from⟨K2,U2⟩);have i6:w.heap.size+2<=w2.heap.size:=K2.res.lt;clear K2 U2 e0 e1
 go_upto_region 3 with (go_at_call 39;refine (HS.out _ a0.out.1.bel).mono ?_;rintro e w3⟨B3,D3,rfl,U3,a9⟩;have K3:=a0.out.1.over a9;have f3:=K3.cat.free 65;have y3:w3.cell? ⟨w.heap.size,65,none⟩=some v.set:=K3.cat.cell 65;have i7:=K3.cat.lt;have b4:=J6 (show _/\_ from⟨U3,a9⟩);clear g1 U3 a9)
 have K4:=K3.set 65 (J1 B3 p.set.length D3) (v':={ v with ws:=J1 B1 p.s.W.length D1,set:=J1 B3 p.set.length D3 }) rfl
 have A4:Alt w.heap.size w3 (w3.setCell ⟨w.heap.size,65,none⟩ (J1 B3 p.set.length D3)):=(Alt.refl _ _).set 65 _;have V4:=A4.q1M (P:=fun b=>w.heap.size+2<=b) (fun h=>by omega) (a0.out.2.over b4.out.2)
 have S4:=(A4.q1M (P:=fun b=>w2.heap.size<=b) (fun h=>by omega) b4.out.1).mono (P':=fun b=>w.heap.size+2<=b) fun b _ hb=>by omega
 have c9:Hid (LkW w p v 0 (w3.setCell ⟨w.heap.size,65,none⟩ (J1 B3 p.set.length D3))):=⟨⟨{ v with ws:=J1 B1 p.s.W.length D1,set:=J1 B3 p.set.length D3 },rfl,K4,V4,S4,fun c hc=>by omega,fun c _=>rfl⟩⟩
 have i8:=K4.cat.lt;clear y3 f3 K3 K4 A4 V4 S4 b4 a0 HS HW;generalize w3.setCell ⟨w.heap.size,65,none⟩ (J1 B3 p.set.length D3)=w4 at *
 go_upto_region 4 with fail
 go_loopw [16] (fun i wl=>∃ (k:Nat),k<=2/\i=.int .i64 (k:Int)/\Hid (LkW w p v k wl)) (fun i _=>2 - (intOf i).toNat)
 case atStart=>exact⟨0,by omega,rfl,c9⟩
 case round =>
  obtain⟨k,hk,rfl,Q⟩:=hrel;clear c9;obtain⟨v',hq,n,W4,S4,L4,N4⟩:=Q.out.half
  by_cases a:k<2
  ·have g3:(k:Int)<2:=by omega
   have b5:v'.l k=v.l k:=N4 k (Nat.le_refl _);obtain⟨At,Ct,et,-,d0⟩:=row_of (u.out.lk k a).told (z0c _) (by decide)
   obtain⟨Ad,Cd,ed,-,d1⟩:=row_of (u.out.lk k a).done (z0h _) (by decide)
   have HT:=J6 (fun (m:World) (hb:Bl w m)=>z6R At (p.L k).told.length Ct (pwC (p.L k).told) m (by obtain⟨B,D,e,R,-⟩:=row_of ((u.out.lk k a).told.over hb) (z0c _) (by decide);rw[et]at e;cases e;exact R) (z2X _) d0)
   have HD:=J6 (fun (m:World) (hb:Bl w m)=>z9C Ad (p.L k).done.length Cd (inC (p.L k).done) m (by obtain⟨B,D,e,R,-⟩:=row_of ((u.out.lk k a).done.over hb) (z0h _) (by decide);rw[ed]at e;cases e;exact R) (z8v _) d1)
   have HL:=J6 (fun (m:World) (hb:Bl w m)=>q2X (p.L k).out (v.l k).said (v.l k).due _ m ((u.out.lk k a).said.over hb) ((u.out.lk k a).due.over hb));have d2:w.heap.size+2<=wr.heap.size:=n.res.lt;have c3:wr.cell? ⟨w.heap.size,66+k * 14+3,none⟩=some (J1 At (p.L k).told.length Ct):=(n.cat.cell (66+k * 14+3)).trans ((z1s k a 3 (by omega)).trans (by rw[b5,<- et];rfl))
   have E:=J6 (show _/\_/\_/\_/\_/\_/\_/\_ from⟨n,W4,S4,L4,N4,b5,et,ed⟩);clear n W4 S4 L4 N4 b5 et ed d0 d1
   go_upto_region 8 with (go_at_call 39;refine (HT.out _ E.out.1.bel).mono ?_;rintro e w5⟨j,d,rfl,U5,F⟩;have T:=E.out.1.over F;have f5:=T.cat.free (66+k * 14+3);have g5:=T.cat.lt;have y5:w5.cell? ⟨w.heap.size,66+k * 14+3,none⟩=some (v.l k).told:=(T.cat.cell (66+k * 14+3)).trans ((z1s k a 3 (by omega)).trans (by rw[E.out.2.2.2.2.2.1];rfl));have f:=J6 (show _/\_ from⟨U5,F⟩);clear c3 U5 F)
   have Y:=T.set (66+k * 14+3) (J1 j (p.L k).told.length d) (z9L k a 3 _ ⟨J1 j (p.L k).told.length d,(v.l k).done,(v.l k).said,(v.l k).due⟩ (by omega) (by rw[E.out.2.2.2.2.2.1];rfl))
   have A6:Alt w.heap.size w5 (w5.setCell ⟨w.heap.size,66+k * 14+3,none⟩ (J1 j (p.L k).told.length d)):=(Alt.refl _ _).set _ _;have U6:=(A6.q1M (P:=fun b=>wr.heap.size<=b) (fun h=>by omega) f.out.1).mono (P':=fun b=>w.heap.size+2<=b) fun b _ hb=>by omega
   have Q6:∀ b,w.heap.size+2<=b->b<wr.heap.size->(w5.setCell ⟨w.heap.size,66+k * 14+3,none⟩ (J1 j (p.L k).told.length d)).heap[b]?=wr.heap[b]?:=fun b hb t=>(A6.block b (by have:=f.out.2.size;omega) (by omega)).trans (f.out.2.block b t)
   have z6:=f.out.2.size;have d3:=A6.size;clear y5 f5 T A6 f HT;generalize w5.setCell ⟨w.heap.size,66+k * 14+3,none⟩ (J1 j (p.L k).told.length d)=w6 at *;have c5:w6.cell? ⟨w.heap.size,66+k * 14+5,none⟩=some (J1 Ad (p.L k).done.length Cd):=(Y.cat.cell (66+k * 14+5)).trans ((z1s k a 5 (by omega)).trans (by rw[z8g,<- E.out.2.2.2.2.2.2.2];rfl))
   have g6:w.heap.size+2<=w6.heap.size:=Y.res.lt;have r:=J6 (show _/\_/\_/\_/\_ from⟨Y,U6,Q6,z6,d3⟩);clear Y U6 Q6 z6 d3
   go_upto_region 9 with (go_at_call 40;refine (HD.out _ r.out.1.bel).mono ?_;rintro e w7⟨B7,D7,rfl,U7,b6⟩;have K7:=r.out.1.over b6;have f7:=K7.cat.free (66+k * 14+5);have i9:=K7.cat.lt;have y7:w7.cell? ⟨w.heap.size,66+k * 14+5,none⟩=some (v.l k).done:=(K7.cat.cell (66+k * 14+5)).trans ((z1s k a 5 (by omega)).trans (by rw[z8g];rfl));have U:=J6 (show _/\_ from⟨U7,b6⟩);clear c5 U7 b6)
   have K8:=K7.set (66+k * 14+5) (J1 B7 (p.L k).done.length D7) (z9L k a 5 _ ⟨J1 j (p.L k).told.length d,J1 B7 (p.L k).done.length D7,(v.l k).said,(v.l k).due⟩ (by omega) (by rw[z8g];rfl))
   rw[z9E]at K8;have A8:Alt w.heap.size w7 (w7.setCell ⟨w.heap.size,66+k * 14+5,none⟩ (J1 B7 (p.L k).done.length D7)):=(Alt.refl _ _).set _ _;have U8:=A8.q1M (P:=fun b=>w.heap.size+2<=b) (fun h=>by omega) (r.out.2.1.over U.out.2)
   have V8:=(A8.q1M (P:=fun b=>w6.heap.size<=b) (fun h=>by omega) U.out.1).mono (P':=fun b=>w.heap.size+2<=b) fun b _ hb=>by omega
   have z8:wr.heap.size<=w7.heap.size:=by have h1:=U.out.2.size;have h2:=r.out.2.2.2.1;have h3:=r.out.2.2.2.2;omega
   have Q8:∀ b,w.heap.size+2<=b->b<wr.heap.size->(w7.setCell ⟨w.heap.size,66+k * 14+5,none⟩ (J1 B7 (p.L k).done.length D7)).heap[b]?=wr.heap[b]?:=fun b hb t=>((A8.block b (by omega) (by omega)).trans (U.out.2.block b (by have h2:=r.out.2.2.2.1;have h3:=r.out.2.2.2.2;omega))).trans (r.out.2.2.1 b hb t)
   have d4:=A8.size;clear y7 f7 K7 A8 U r HD;generalize w7.setCell ⟨w.heap.size,66+k * 14+5,none⟩ (J1 B7 (p.L k).done.length D7)=w8 at *;have l8:=z5n ((z4y p _ a (v.l k).said (v.l k).due).part K8.cat) rfl;rw[z8g]at l8;change (z2i (J2 (some ⟨w.heap.size,66+k * 14+6,none⟩))).run prog w8=.ok (J4 #[(v.l k).said,(v.l k).due,.int .i64 (p.L k).out.g,J3 (p.L k).out.cl]) w8 at l8;have j0:w.heap.size+2<=w8.heap.size:=K8.res.lt;have r:=J6 (show _/\_/\_/\_/\_/\_ from⟨K8,U8,V8,Q8,z8,d4⟩);clear K8 U8 V8 Q8 z8 d4
   go_upto_region 10 with (go_at_call 41;refine (HL.out _ r.out.1.bel).mono ?_;rintro e w9⟨u1,u2,rfl,U9,V9,b7⟩;have K9:=r.out.1.over b7;have s9:=z8b (w:=w9) (g:=w.heap.size) (o:=66+k * 14+6) (cs:=[u1,u2,.int .i64 (p.L k).out.g,J3 (p.L k).out.cl]) ((z4y p _ a u1 u2).there K9.cat) rfl (by have a1:=U9.one;have a2:=V9.one;simp only[List.all_cons,List.all_nil,a1,a2];rfl);change (z2K (J2 (some ⟨w.heap.size,66+k * 14+6,none⟩)) (J4 #[u1,u2,.int .i64 (p.L k).out.g,J3 (p.L k).out.cl])).run prog w9=_ at s9;have G:=J6 (show _/\_/\_ from⟨U9,V9,b7⟩);have V:=J6 K9;clear l8 U9 V9 b7 K9)
   have j1:=V.out.res.lt;have a3:Alt w.heap.size w9 (w9.setCells w.heap.size (66+k * 14+6) [u1,u2,.int .i64 (p.L k).out.g,J3 (p.L k).out.cl]):=Alt.sets _ (Alt.refl _ _) _;have b8:=(z4y p _ a u1 u2).sets V.out.cat;rw[z8g,z9E]at b8;have d5:z4G w p (v'.upd k ⟨J1 j (p.L k).told.length d,J1 B7 (p.L k).done.length D7,u1,u2⟩) (w9.setCells w.heap.size (66+k * 14+6) [u1,u2,.int .i64 (p.L k).out.g,J3 (p.L k).out.cl]):=⟨b8,a3.cat (by omega) V.out.res,z0a (b:=w.heap.size) (Nat.le_refl _) _ _ _ V.out.bel⟩
   have d6:z4S (fun b=>w.heap.size+2<=b) (w9.setCells w.heap.size (66+k * 14+6) [u1,u2,.int .i64 (p.L k).out.g,J3 (p.L k).out.cl]) (p.L k) ⟨J1 j (p.L k).told.length d,J1 B7 (p.L k).done.length D7,u1,u2⟩:=
    z4S.keep' (w:=w9) ⟨r.out.2.1.over G.out.2.2,r.out.2.2.1.over G.out.2.2,G.out.1.mono fun b _ hb=>by omega,G.out.2.1.mono fun b _ hb=>by omega⟩ fun b hb t=>a3.block b t (by omega)
   have HM:=J6 (LkW.step a _ hq d5 E.out.2.1 E.out.2.2.1 E.out.2.2.2.1 E.out.2.2.2.2.1 d6 fun b hb t=>((a3.block b (by have h1:=G.out.2.2.size;have h2:=r.out.2.2.2.2.1;have h3:=r.out.2.2.2.2.2;omega) (by omega)).trans (G.out.2.2.block b (by have h2:=r.out.2.2.2.2.1;have h3:=r.out.2.2.2.2.2;omega))).trans (r.out.2.2.2.1 b hb t))
   clear a3 b8 d5 d6 E r G V s9;generalize w9.setCells w.heap.size (66+k * 14+6) [u1,u2,.int .i64 (p.L k).out.g,J3 (p.L k).out.cl]=w10 at *;go_wp2;exact⟨⟨k+1,by omega,by go_num,HM⟩,by simp[intOf];omega⟩
  ·obtain rfl:k=2:=by omega
   obtain⟨z,hz,N,H⟩:=u.out.q;obtain⟨A2,C2,e2,-,-⟩:=row_of N (z0U p.q z hz) (by decide)
   have HK:=J6 (fun (m:World) (hb:Bl w m)=>z8L A2 p.q.length C2 (quL p.q z) m (by obtain⟨B,D,e,R,-⟩:=row_of (N.over hb) (z0U p.q z hz) (by decide);rw[e2]at e;cases e;exact R) (q7E p.q z H) f8)
   have d7:Hid (∀ g m,w.heap.size<=g->Bl w m->z4N (fun b=>P b/\b<w.heap.size) (w.heap.size+2) g m (p.q.map (·.2)) z 0):=fun g m hg hb=>⟨by simpa using hz,fun i x y hi=>by omega,fun i x y _ M Z=>by
    obtain⟨x',d8,rfl⟩:∃ x',p.q[i]?=some x'/\x'.2=x:=by simpa using M
    exact⟨(H i x' y d8 Z).1.over hb,(H i x' y d8 Z).2.over hb⟩⟩
   have c4:wr.cell? ⟨w.heap.size,96,none⟩=some (J1 A2 p.q.length C2):=by rw[<- e2,<- hq];exact n.cat.cell 96
   have PR:z3X (fun b=>w.heap.size+2<=b) wr p v':=⟨W4,S4,L4⟩;have d2:w.heap.size+2<=wr.heap.size:=n.res.lt;have E:=J6 (show _/\_ from⟨n,PR⟩);clear n PR W4 S4 L4 N4 Q N H
   go_upto_region 12 with (go_at_call 42;refine (HK.out _ E.out.1.bel).mono ?_;rintro e w5⟨j,d,rfl,U5,F⟩;have T:=E.out.1.over F;have f5:=T.cat.free 96;have y5:w5.cell? ⟨w.heap.size,96,none⟩=some v'.q:=T.cat.cell 96;have g5:=T.cat.lt;have f:=J6 (show _/\_ from⟨U5,F⟩);clear c4 U5 F)
   have Y:=T.set 96 (J1 j p.q.length d) (v':={ v' with q:=J1 j p.q.length d }) rfl
   have A6:Alt w.heap.size w5 (w5.setCell ⟨w.heap.size,96,none⟩ (J1 j p.q.length d)):=(Alt.refl _ _).set 96 _;have O6:(w5.setCell ⟨w.heap.size,96,none⟩ (J1 j p.q.length d)).ownsRow (w.heap.size+2) 70 7 (J1 j p.q.length d) p.q.length (quL p.q z):=z2N (z1c f.out.1 fun k hk=>A6.block k (World.ownsRow.lt f.out.1 k hk).2 (by have:=(World.ownsRow.lt f.out.1 k hk).1;omega)) (by omega)
   have c6:∀ g,j=some ⟨g,0,none⟩->wr.heap.size<=g:=fun g hg=>(World.ownsRow.lt f.out.1 g (by rw[hg];rfl)).1
   have R6:z3X (fun b=>w.heap.size+2<=b/\b<wr.heap.size) (w5.setCell ⟨w.heap.size,96,none⟩ (J1 j p.q.length d)) p { v' with q:=J1 j p.q.length d }:=
    let R:=(E.out.2.mono (P':=fun b=>w.heap.size+2<=b/\b<wr.heap.size) fun b t hb=>⟨hb,t⟩).keep (w':=w5.setCell ⟨w.heap.size,96,none⟩ (J1 j p.q.length d)) fun b hb t=>(A6.block b (by have:=f.out.2.size;omega) (by omega)).trans (f.out.2.block b t)
    ⟨R.ws,R.set,R.lk⟩
   have d9:Hid (QuW w p P j d 0 (w5.setCell ⟨w.heap.size,96,none⟩ (J1 j p.q.length d))):=⟨⟨_,z,rfl,Y,O6,fun g hg=>⟨d7.out g _ (by have:=c6 g hg;omega) Y.bel,R6.mono fun b _ hb=>⟨hb.1,by have:=c6 g hg;omega⟩⟩,R6.mono fun b _ hb=>hb.1⟩⟩
   have g8:(w5.setCell ⟨w.heap.size,96,none⟩ (J1 j p.q.length d)).cell? ⟨w.heap.size,96,none⟩=some (J1 j p.q.length d):=Y.cat.cell 96;have g6:=Y.cat.lt;clear y5 f5 T Y A6 R6 O6 c6 f E d7 HK e2 hq;generalize w5.setCell ⟨w.heap.size,96,none⟩ (J1 j p.q.length d)=w6 at *
   go_upto_region 13 with fail
   go_loopw [54] (fun i wl=>∃ (k:Nat),k<=p.q.length/\i=.int .i64 (k:Int)/\Hid (QuW w p P j d k wl)) (fun i _=>p.q.length - (intOf i).toNat)
   case atStart=>exact⟨0,Nat.zero_le _,rfl,d9⟩
   case round =>
    obtain⟨k,hk,rfl,Q⟩:=hrel;clear d9 g8 a;obtain⟨v2,z',K,n,O4,a4,hV⟩:=Q.out.half
    by_cases a:k<p.q.length
    ·obtain⟨gq,X,rfl,g9,Cq,h4,h5,e3,a5⟩:=z4e O4 (by omega)
     obtain⟨KK,e6⟩:=a4 gq rfl;have e7:z'.length=p.q.length:=by have:=KK.len;simpa using this
     have M:p.q[k]?=some p.q[k]:=List.getElem?_eq_getElem a;have Z:z'[k]?=some z'[k]:=List.getElem?_eq_getElem (by omega)
     generalize p.q[k]=xk at M;generalize z'[k]=yk at Z;have c7:(p.q.map (·.2))[k]?=some xk.2:=by simp[M]
     have e4:X[k * 7+1+4]?=some yk.1:=z3n a5 ((z4b p.q z' k xk yk 5 M Z (by omega)).trans rfl)
     have e5:X[k * 7+1+5]?=some yk.2:=z3n a5 ((z4b p.q z' k xk yk 6 M Z (by omega)).trans rfl)
     obtain⟨o1,o2⟩:=KK.old k xk.2 yk (Nat.le_refl _) c7 Z;have h6:=Cq.lt;have h7:=J6 (q0I gq (k * 7+1) 70 X xk.2.S xk.2.D yk.1 yk.2 _ wr Cq e4 e5 o1 o2 (fun h=>by omega))
     have c4:wr.cell? ⟨w.heap.size,96,none⟩=some (J1 (some ⟨gq,0,none⟩) p.q.length d):=by rw[<- K];exact n.cat.cell 96
     have d2:=n.cat.lt;have g3:(k:Int)<(p.q.length:Int):=by omega
     have HN:Hid (∀ u1 u2 w5,CAt 70 w5 gq ((X.setIfInBounds (k * 7+1+4) u1).setIfInBounds (k * 7+1+5) u2)->z1v 65 (fun b=>wr.heap.size<=b) w5 u1 2 16 (pwC xk.2.S)->z1v 3 (fun b=>wr.heap.size<=b) w5 u2 1 8 (inC xk.2.D)->Alt gq wr w5->QuW w p P (some ⟨gq,0,none⟩) d (k+1) w5):=fun u1 u2 w5 hc h1 h2 ha=>by
      have h8:w.heap.size+2<=wr.heap.size:=n.res.lt;have O5:=z6M (base:=w.heap.size+2) O4.1 g9 h4 h5 e3 a5 (k * 7+1+4) (k * 7+1+5) u1 u2 hc;rw[z9N p.q z' k u1 u2 e7 a]at O5;have hR:z3X (fun b=>w.heap.size+2<=b/\b≠gq) w5 p v2:=e6.keep fun b hb t=>ha.block b t hb.2;refine⟨⟨v2,_,K,⟨ha.cat (by omega) n.cat,ha.cat (by omega) n.res,n.bel.trans (ha.below (by omega) n.bel.size)⟩,O5,fun g hg=>?_,hR.mono fun b _ hb=>hb.1⟩⟩
      cases hg;exact⟨KK.step c7 h1 h2 h8 h6 ha (fun h=>by omega),hR⟩
     clear O4 a4 hV n Cq KK e6 M Z c7 e4 e5 o1 o2 a5 e3 e7 K
     go_wp2_with (go_at_call 43;refine h7.out.mono ?_;rintro e w5⟨u1,u2,rfl,e8,e9,f4,f6⟩;have HM:=J6 (HN.out u1 u2 w5 e8 e9 f4 f6);clear e8 e9 f4 f6)
     exact⟨⟨k+1,by omega,by go_num,HM⟩,by simp[intOf];omega⟩
    ·obtain rfl:k=p.q.length:=by omega
     have QR:z8l (fun b=>w.heap.size+2<=b) wr (J1 j p.q.length d) p.q:=by
      by_cases h0:0<p.q.length
      ·obtain⟨gq,X,rfl,-⟩:=z4e O4 h0;obtain⟨KK,-⟩:=a4 gq rfl;refine⟨z',by have:=KK.len;simpa using this,z1v.own O4 (by omega),fun i x y M Z=>?_⟩
       have:=KK.new i x.2 y (List.getElem?_eq_some_iff.1 M).1 (by simp[M]) Z
       exact⟨this.1.mono fun b _ hb=>hb.1,this.2.mono fun b _ hb=>hb.1⟩
      ·have e0:p.q=[]:=List.length_eq_zero_iff.1 (by omega)
       have R:=z1v.own (bts:=80) O4 (by omega)
       rw[e0]at R ⊢;exact⟨[],rfl,R,fun i x y M=>by cases M⟩
     have I8:z9V (fun b=>w.heap.size+2<=b) wr p v2:=⟨hV,by rw[K];exact QR⟩
     have c4:wr.cell? ⟨w.heap.size,96,none⟩=some (J1 j p.q.length d):=by rw[<- K];exact n.cat.cell 96
     have l8:=z0j n.cat (z0b _ _);have s8:=z0k n.res z0d (z0b p v2) (z0Y I8.rep);have R9:=n.res.z0t (ds:=prC p v2) (by rw[z0d];rfl)
     have b9:=z0a (b:=w.heap.size+1) (Nat.le_succ _) (prC p v2).toList 0 _ n.bel;have I9:=I8.sets (g:=w.heap.size+1) (by omega) 0 (prC p v2).toList
     have HZ:=J6 (show _/\_/\_ from⟨R9,b9,I9⟩);clear O4 a4 hV n QR I8 R9 b9 I9 K Q;generalize wr.setCells (w.heap.size+1) 0 (prC p v2).toList=w9 at *;go_wp2;exact bodyPost_ret (v:=J4 (prC p v2)) (results_cell_row results24 _ _ (w.heap.size+1) 58 _ (0,0) _ rfl HZ.out.1 underlying58 rfl (by rw[z2E];rfl)) rfl ⟨_,rfl,HZ.out.2.2,HZ.out.2.1⟩
end Wd
namespace Wd
open Go.RowKit Pv Kc
attribute [local go_sem ↓] z0H z0w z1r z1j
theorem j4u(g:Nat)(x:Wo)(v:WoV)(P:Nat->Prop)(w:World)(h:CAt 97 w g (wdC x v))(k:WIn P w x v)(n:Inv x) :
  Calls prog 11 #[J2 (some ⟨g,0,none⟩)] w fun e w'=>∃ v',e=.returned (J4 (prC x.p v'))/\z9V (fun b=>w.heap.size+1<=b) w' x.p v'/\Bl w w':=by
 have d:PIn (fun b=>P b/\b<w.heap.size) w x.p v.p:=k.p.mono fun b o hp=>⟨hp,o⟩;have q:=J6 (fun (c:World) (hb:Bl w c)=>j1k x.p v.p _ c (d.over hb) (q8R n));have r:=J6 (fun (c:World) (hb:Bl w c)=>(show (z7u (J2 (some ⟨g,2,none⟩))).run prog c=.ok (J4 (prC x.p v.p)) c from q9F ((z7P x v x.p v.p).part (h.over hb)) (z0b _ _)));have R0:CAt 58 (w.alloc (J5 zeroCells58 58)) w.heap.size zeroCells58:=CAt.new _ w _;have B0:Bl w (w.alloc (J5 zeroCells58 58)):=znw w _;have s:=h.lt;clear h k d
 go_enter func11,ntmps11
 go_upto_region 1 with fail
 generalize w.alloc (J5 zeroCells58 58)=w0 at *;have t:=R0.lt;have u:=r.out w0 B0;have a:=J6 (show _/\_ from⟨R0,B0⟩);clear R0 B0
 go_wp2_with (go_at_call 24;refine (q.out _ a.out.2).mono ?_;rintro e w1⟨v',rfl,i,b1⟩;have f:=a.out.1.over b1;have y:=f.lt;have z:=z0k f z0d (z0b x.p v') (z0Y i.rep);have l:=f.z0t (ds:=prC x.p v') (by rw[z0d];rfl);have b2:=z0a (b:=w.heap.size) (Nat.le_refl _) (prC x.p v').toList 0 _ (zbt a.out.2 b1);have m:=(i.sets (g:=w.heap.size) (by omega) 0 (prC x.p v').toList).mono (P':=fun b=>w.heap.size+1<=b) (fun b _ hb=>by omega);have j:=J6 (show _/\_/\_ from⟨l,b2,m⟩);clear f l b1 b2 i m u;generalize w1.setCells w.heap.size 0 (prC x.p v').toList=w2 at *)
 exact bodyPost_ret (v:=J4 (prC x.p v')) (results_cell_row results11 _ _ w.heap.size 58 _ (0,0) _ rfl j.out.1 underlying58 rfl (by rw[z2E];rfl)) rfl ⟨_,rfl,j.out.2.2,j.out.2.1⟩
theorem j4f(g:Nat)(x:Wo)(v:WoV)(P:Nat->Prop)(w:World)(i:Nat)(h:i<2)(k:CAt 97 w g (wdC x v))(p:WIn P w x v)(q:Inv x) :
  Calls prog 13 #[J2 (some ⟨g,0,none⟩),J I (i:Int)] w fun e w'=>∃ v',e=.returned (J4 (csC (x.c i) v'))/\z7N (fun b=>w.heap.size+1<=b) w' (x.c i) v'/\Bl w w':=by
 have f:CIn (fun b=>P b/\b<w.heap.size) w (x.c i) (v.c i):=(p.c i h).mono fun b t hp=>⟨hp,t⟩;have u:=J6 (fun (a:World) (hb:Bl w a)=>q9U (x.c i) (v.c i) _ a (f.over hb) (j0K q h).1 (j0K q h).2);have y:=J6 (fun (a:World) (hb:Bl w a)=>(show (z5b (J2 (some ⟨g,99+i * 22,none⟩))).run prog a=.ok (J4 (csC (x.c i) (v.c i))) a from j2k ((z9W x v h (x.c i) (v.c i)).part (k.over hb)) (z0i _ _)));have R0:CAt 75 (w.alloc (J5 Z22 75)) w.heap.size Z22:=CAt.new _ w _;have B0:Bl w (w.alloc (J5 Z22 75)):=znw w _;have z:=k.lt;have i1:(i:Int)<2:=by omega
 have l:isC (i:Int)=true:=by unfold isC;simp;omega
 have m:Hid (∀ a,Calls prog 26 #[J I (i:Int)] a fun e w'=>e=.returned (J3 true)/\a=w'):=fun a=>by rw[<- l];exact z2v i a
 clear k p f
 go_enter func13,ntmps13
 go_upto_region 1 with fail
 change Code.wp prog _ _ _ (w.alloc (J5 Z22 75));generalize w.alloc (J5 Z22 75)=w0 at *;have A:=R0.lt;have B:=y.out w0 B0;have d:=J6 (show _/\_ from⟨R0,B0⟩);clear R0 B0
 go_wp2_with (first
  | (go_at_call 26;refine (m.out _).mono ?_;rintro e w'⟨rfl,rfl⟩)
  | (go_at_call 27;refine (u.out _ d.out.2).mono ?_;rintro e w1⟨v',rfl,n,b1⟩;have j:=d.out.1.over b1;have C:=j.lt;have D:=z1C j z0p (z0i (x.c i) v') (z1E n.rep);have r:=j.z0t (ds:=csC (x.c i) v') (by rw[z0p];rfl);have b2:=z0a (b:=w.heap.size) (Nat.le_refl _) (csC (x.c i) v').toList 0 _ (zbt d.out.2 b1);have s:=(n.sets (g:=w.heap.size) (by omega) 0 (csC (x.c i) v').toList).mono (P':=fun b=>w.heap.size+1<=b) (fun b _ hb=>by omega);have o:=J6 (show _/\_/\_ from⟨r,b2,s⟩);clear j r b1 b2 n s B;generalize w1.setCells w.heap.size 0 (csC (x.c i) v').toList=w2 at *))
 exact bodyPost_ret (v:=J4 (csC (x.c i) v')) (z2Y results13 _ _ _ _ rfl o.out.1 rfl) rfl ⟨_,rfl,o.out.2.2,o.out.2.1⟩
end Wd
namespace Wd
open Go.RowKit Pv Kc
theorem StW.keep{B g:Nat}{x:Wo}{w w':World}(h:StW B g x w)(c:∀ b,B<=b->b<w.heap.size->w'.heap[b]?=w.heap[b]?):StW B g x w':=by
 obtain⟨v,hc,d⟩:=h.at_
 have a:CAt 97 w' g (wdC x v):=by
  have:=c g h.le h.lt;unfold CAt at hc ⊢;rw[this];exact hc
 exact⟨⟨v,a,d.keep fun b hb e=>c b hb.1 e⟩,h.inv,h.le,a.lt⟩
theorem StP.keep{P:Nat->Prop}{g:Nat}{x:Wo}{w w':World}(h:StP P g x w)(a:∀ b,P b∨b=g->b<w.heap.size->w'.heap[b]?=w.heap[b]?):StP P g x w':=by
 obtain⟨v,hc,c⟩:=h.at_;exact⟨⟨v,(a g (.inr rfl) hc.lt).trans hc,c.keep fun b hb d=>a b (.inl hb) d⟩,h.inv,h.no⟩
theorem StP.over{P:Nat->Prop}{g:Nat}{x:Wo}{w w':World}(h:StP P g x w)(hb:Bl w w'):StP P g x w':=h.keep fun b _ a=>hb.block b a
theorem StP.do_{P:Nat->Prop}{g:Nat}{x:Wo}{w:World}(h:StP P g x w)(d:Dd)(j:∀ b,w.heap.size<=b->P b) :
  Calls prog 10 #[J2 (some ⟨g,0,none⟩),J4 (ddC d)] w fun e w'=>e=.returned (J4 #[J I (doW x d).2.1,J I (doW x d).2.2])/\StP P g (doW x d).1 w'/\Alt g w w':=by
 obtain⟨v,hc,l⟩:=h.at_;refine (q6y g x v _ w d.k d.c d.d d.v d.n d.b d.f hc l h.no h.inv).mono ?_;rintro e w'⟨rfl,v',a,i,m⟩;exact⟨rfl,⟨⟨v',a,i.mono fun b _ hb=>hb.elim (fun h=>h.1) fun h=>j b h⟩,j2y h.inv d,h.no⟩,m⟩
theorem StP.q9X{P:Nat->Prop}{g:Nat}{x:Wo}{w:World}(h:StP P g x w):Calls prog 11 #[J2 (some ⟨g,0,none⟩)] w fun e w'=>∃ v',e=.returned (J4 (prC x.p v'))/\z9V (fun b=>w.heap.size+1<=b) w' x.p v'/\Bl w w':=by
 obtain⟨v,hc,a⟩:=h.at_;exact j4u g x v _ w hc a h.inv
theorem StP.cons{P:Nat->Prop}{g:Nat}{x:Wo}{w:World}(h:StP P g x w)(i:Nat)(a:i<2):Calls prog 13 #[J2 (some ⟨g,0,none⟩),J I (i:Int)] w fun e w'=>∃ v',e=.returned (J4 (csC (x.c i) v'))/\z7N (fun b=>w.heap.size+1<=b) w' (x.c i) v'/\Bl w w':=by
 obtain⟨v,hc,d⟩:=h.at_;exact j4f g x v _ w i a hc d h.inv
theorem StW.p{B g:Nat}{x:Wo}{w:World}(h:StW B g x w):StP (fun b=>B<=b/\b≠g) g x w:=⟨h.at_,h.inv,fun k=>k.2 rfl⟩
theorem z9V.over{P:Nat->Prop}{w w':World}{p:Pr}{v:PrV}(h:z9V P w p v)(hb:Bl w w'):z9V P w' p v:=⟨h.r.keep fun b _ a=>hb.block b a,h.q.keep fun b _ a=>hb.block b a⟩
theorem z9V.wr{P:Nat->Prop}{w:World}{p:Pr}{v:PrV}(h:z9V P w p v):PWr P w p v:=by
 obtain⟨z,a,b,-⟩:=h.q;exact⟨h.r.ws.wr (z1f _) (by decide) (by decide),h.r.set.wr (z0c _) (by decide) (by decide),fun c hc=>(h.r.lk c hc).told.wr (z0c _) (by decide) (by decide),fun c hc=>(h.r.lk c hc).done.wr (z0h _) (by decide) (by decide),fun c hc=>(h.r.lk c hc).said.wr (z0V _) (by decide) (by decide),fun c hc=>(h.r.lk c hc).due.wr (z0h _) (by decide) (by decide),b.wr (z0U p.q z a) (by decide) (by decide)⟩
theorem PWr.j8L{P:Nat->Prop}{w:World}{p:Pr}{v:PrV}(h:PWr P w p v)(g o:Nat)(y:Value):PWr P (w.setCell ⟨g,o,none⟩ y) p v:=
 ⟨h.ws.set g o y,h.set.set g o y,fun c hc=>(h.told c hc).set g o y,fun c hc=>(h.done c hc).set g o y,fun c hc=>(h.said c hc).set g o y,fun c hc=>(h.due c hc).set g o y,h.q.set g o y⟩
theorem PWr.over{P:Nat->Prop}{w w':World}{p:Pr}{v:PrV}(h:PWr P w p v)(hb:Bl w w'):PWr P w' p v:=
 ⟨h.ws.over hb,h.set.over hb,fun c hc=>(h.told c hc).over hb,fun c hc=>(h.done c hc).over hb,fun c hc=>(h.said c hc).over hb,fun c hc=>(h.due c hc).over hb,h.q.over hb⟩
theorem PS.set{n gp:Nat}{w1 wl:World}{p:Pr}{v:PrV}(h:PS n gp w1 p v wl){b:Nat}(hb:n<=b/\b≠gp)(o:Nat)(y:Value):PS n gp w1 p v (wl.setCell ⟨b,o,none⟩ y):=
 ⟨h.bel.setCell (p:=⟨b,o,none⟩) hb.1 y,h.cat.other hb.2.symm y,h.wr.j8L b o y,h.le⟩
theorem PS.over{n gp:Nat}{w1 wl w':World}{p:Pr}{v:PrV}(h:PS n gp w1 p v wl)(hb:Bl wl w')(a:n<=w1.heap.size):PS n gp w1 p v w':=
 ⟨h.bel.trans (hb.mono (Nat.le_trans a h.bel.size)),h.cat.over hb,h.wr.over hb,h.le⟩
structure CWr(P:Nat->Prop)(w:World)(c:Cs)(v:CsV)(z:Nat->Value):Prop where
 set:Wr 65 P w v.set c.set.length 2
 pd:Wr 68 P w v.pd c.pd.length 6
 ps:∀ k,k<c.pd.length->(∃ m,Wr 65 P w (z k) m 2)/\∀ b off C,v.pd=J1 (some ⟨b,off,none⟩) c.pd.length C->w.cell? ⟨b,off+k * 6+4,none⟩=some (z k)
 rp:Wr 79 P w v.rp c.rp.length 2
 said:Wr 9 P w v.said c.out.S.length 1
theorem z7N.over{P:Nat->Prop}{w w':World}{c:Cs}{v:CsV}(h:z7N P w c v)(hb:Bl w w'):z7N P w' c v:=h.keep fun b _ a=>hb.block b a
theorem z7N.wr{P:Nat->Prop}{w:World}{c:Cs}{v:CsV}(h:z7N P w c v):∃ z,CWr P w c v z:=by
 obtain⟨z,j,f,l⟩:=h.pd;refine⟨fun k=>(z.getD k (undef,undef)).1,h.set.wr (z0c _) (by decide) (by decide),f.wr (z0W c.pd z j) (by decide) (by decide),fun k n=>?_,h.rp.wr (z0c _) (by decide) (by decide),h.said.wr (z0V _) (by decide) (by decide)⟩
 have a:k<z.length:=by omega
 have g:c.pd[k]?=some c.pd[k]:=List.getElem?_eq_getElem n;have d:z[k]?=some z[k]:=List.getElem?_eq_getElem a;have e:(z.getD k (undef,undef))=z[k]:=by rw[List.getD_eq_getElem?_getD,d];rfl
 rw[e];refine⟨⟨_,(l k _ _ g d).1.wr (z0c _) (by decide) (by decide)⟩,fun b off C o=>?_⟩
 obtain⟨A,m,C',h1,h2,h3,s,p⟩:=f;rw[o]at h1;cases h1;obtain⟨t,i,q,-,-,r⟩:=p (by omega)
 cases q;rw[Nat.add_assoc];exact r _ _ ((z4m c.pd z k _ _ 4 g d (by omega)).trans rfl)
theorem CWr.over{P:Nat->Prop}{w w':World}{c:Cs}{v:CsV}{z:Nat->Value}(h:CWr P w c v z)(hb:Bl w w'):CWr P w' c v z:=
 ⟨h.set.over hb,h.pd.over hb,fun k d=>⟨by obtain⟨m,e⟩:=(h.ps k d).1;exact⟨m,e.over hb⟩,fun b off C f=>by
  have hc:=(h.ps k d).2 b off C f
  exact (World.cell?_of_block (w:=w) (a:=⟨b,off+k * 6+4,none⟩) (hb.block b (World.block_lt_of_cell? w _ hc))).trans hc⟩,h.rp.over hb,h.said.over hb⟩
theorem CWr.psm{P:Nat->Prop}{w:World}{c:Cs}{v:CsV}{z:Nat->Value}(h:CWr P w c v z){k:Nat}(d:k<c.pd.length){A:Option Addr}{m C:Nat}(e:z k=J1 A m C):Wr 65 P w (z k) m 2:=by
 obtain⟨f,a⟩:=(h.ps k d).1;obtain⟨-,A',C',b⟩:=a.shape;rw[e]at b;cases b;exact a
theorem CWr.put{P:Nat->Prop}{w:World}{c:Cs}{v:CsV}{z:Nat->Value}(h:CWr P w c v z)(g o:Nat)(y:Value)(e:∀ k b off C,k<c.pd.length->v.pd=J1 (some ⟨b,off,none⟩) c.pd.length C->(⟨g,o,none⟩:Addr)≠⟨b,off+k * 6+4,none⟩):CWr P (w.setCell ⟨g,o,none⟩ y) c v z:=
 ⟨h.set.set g o y,h.pd.set g o y,fun k a=>⟨by obtain⟨m,f⟩:=(h.ps k a).1;exact⟨m,f.set g o y⟩,fun b off C d=>by
  rw[World.cell?_setCell_other _ _ _ _ (e k b off C a d)]
  exact (h.ps k a).2 b off C d⟩,h.rp.set g o y,h.said.set g o y⟩
theorem CWr.row{P:Nat->Prop}{w:World}{c:Cs}{v:CsV}{z:Nat->Value}(h:CWr P w c v z){g:Nat}{e:TypeId}(hu:Uz e w g)(d:e≠68)(o:Nat)(y:Value):CWr P (w.setCell ⟨g,o,none⟩ y) c v z:=by
 refine h.put g o y fun k b off C n f i=>?_;cases i;obtain⟨-,A,C',h1,j⟩:=h.pd;rw[f]at h1;cases h1;obtain⟨p,a,l,-,m,-⟩:=j (by omega)
 cases l;exact hu.ne m d rfl
theorem CWr.id_{P:Nat->Prop}{w:World}{c:Cs}{v:CsV}{z:Nat->Value}(h:CWr P w c v z){g off C:Nat}(e:v.pd=J1 (some ⟨g,off,none⟩) c.pd.length C)(k:Nat)(y:Value):CWr P (w.setCell ⟨g,off+k * 6+1,none⟩ y) c v z:=by
 refine h.put g _ y fun k' b d C' i a f=>?_;rw[e]at a;cases a;simp only[Addr.mk.injEq,true_and,and_true]at f;omega
structure CS(n gc:Nat)(w1:World)(c:Cs)(v:CsV)(z:Nat->Value)(wl:World):Prop where
 bel:Below n w1 wl
 cat:CAt 75 wl gc (csC c v)
 wr:CWr (fun b=>n<=b/\b≠gc) wl c v z
theorem CS.row{n gc:Nat}{w1 wl:World}{c:Cs}{v:CsV}{z:Nat->Value}(h:CS n gc w1 c v z wl){b:Nat}(hb:n<=b/\b≠gc){e:TypeId}(hu:Uz e wl b)(a:e≠68)(o:Nat)(y:Value):CS n gc w1 c v z (wl.setCell ⟨b,o,none⟩ y):=
 ⟨h.bel.setCell (p:=⟨b,o,none⟩) hb.1 y,h.cat.other hb.2.symm y,h.wr.row hu a o y⟩
theorem CS.id_{n gc:Nat}{w1 wl:World}{c:Cs}{v:CsV}{z:Nat->Value}(h:CS n gc w1 c v z wl){b off C:Nat}(hb:n<=b/\b≠gc)(a:v.pd=J1 (some ⟨b,off,none⟩) c.pd.length C)(k:Nat)(y:Value):CS n gc w1 c v z (wl.setCell ⟨b,off+k * 6+1,none⟩ y):=
 ⟨h.bel.setCell (p:=⟨b,_,none⟩) hb.1 y,h.cat.other hb.2.symm y,h.wr.id_ a k y⟩
end Wd
namespace Wd
open Go.RowKit Pv
theorem j1s{P:Nat->Prop}{w a:World}{l:List ByteArray}{v:Value}(h:z0C P w v 1 16 (txC l))(hb:Bl w a):∃ A C,v=J1 A l.length C/\l.length<=140737488351232/\∀ k,k<l.length->∃ b o,A=some ⟨b,o,none⟩/\a.cell? ⟨b,o+k,none⟩=some (.string (l.getD k ByteArray.empty)):=by
 obtain⟨d,n0,C0,j,f,-,h⟩:=h;obtain⟨A,C,e,s,-,c,-⟩:=(h.over hb).open (z0V l) (by decide)
 cases e;refine⟨d,C0,f,by omega,fun k g=>?_⟩
 obtain⟨b,o,i,-,-,hc⟩:=c (by omega)
 exact⟨b,o,i,hc _ _ (z7z l k g)⟩
theorem q5a{P:Nat->Prop}{w a:World}{l:List Int}{v:Value}(h:z0C P w v 1 8 (inC l))(hb:Bl w a):∃ A C,v=J1 A l.length C/\l.length<=140737488351232/\∀ k,k<l.length->∃ b o,A=some ⟨b,o,none⟩/\a.cell? ⟨b,o+k,none⟩=some (J I (l.getD k 0)):=by
 obtain⟨d,n0,C0,j,f,-,h⟩:=h;obtain⟨A,C,e,s,-,c,-⟩:=(h.over hb).open (z0h l) (by decide)
 cases e;refine⟨d,C0,f,by omega,fun k g=>?_⟩
 obtain⟨b,o,i,-,-,hc⟩:=c (by omega)
 exact⟨b,o,i,hc _ _ (z3J l k g)⟩
theorem z8C(x:Ln.Line)(v1 v2 s t:Value)(P P':Nat->Prop)(w:World)(h1:z0C P w v1 1 16 (txC x.S))(h2:z0C P w v2 1 8 (inC x.D))(p:z0C P' w s 1 16 (txC x.S))(q:z0C P' w t 1 8 (inC x.D)) :
  Calls prog 25 #[J4 #[v1,v2,J I x.g,J3 x.cl],J4 #[s,t,J I x.g,J3 x.cl]] w fun e w'=>e=.returned (J3 true)/\Bl w w':=by
 have H:=J6 (fun (r:World) (hb:Bl w r)=>j1s h1 hb);have K:=J6 (fun (r:World) (hb:Bl w r)=>j1s p hb);have N:=J6 (fun (r:World) (hb:Bl w r)=>q5a h2 hb);have Q:=J6 (fun (r:World) (hb:Bl w r)=>q5a q hb);obtain⟨A,C,rfl,hl,-⟩:=j1s h1 (Below.refl _ w);obtain⟨A',C',rfl,-,-⟩:=j1s p (Below.refl _ w);obtain⟨D,E,rfl,hd,-⟩:=q5a h2 (Below.refl _ w);obtain⟨j,l,rfl,-,-⟩:=q5a q (Below.refl _ w);clear h1 p h2 q
 have a:Hid (CAt 48 ((w.alloc (J5 #[J1 A x.S.length C,J1 D x.D.length E,J I x.g,J3 x.cl] 48)).alloc (J5 #[J1 A' x.S.length C',J1 j x.D.length l,J I x.g,J3 x.cl] 48)) w.heap.size #[J1 A x.S.length C,J1 D x.D.length E,J I x.g,J3 x.cl]/\CAt 48 ((w.alloc (J5 #[J1 A x.S.length C,J1 D x.D.length E,J I x.g,J3 x.cl] 48)).alloc (J5 #[J1 A' x.S.length C',J1 j x.D.length l,J I x.g,J3 x.cl] 48)) (w.heap.size+1) #[J1 A' x.S.length C',J1 j x.D.length l,J I x.g,J3 x.cl]/\Bl w ((w.alloc (J5 #[J1 A x.S.length C,J1 D x.D.length E,J I x.g,J3 x.cl] 48)).alloc (J5 #[J1 A' x.S.length C',J1 j x.D.length l,J I x.g,J3 x.cl] 48))):=
  ⟨(CAt.new _ w _).alloc _,CAt.new2 _ w _ _,(znw w _).alloc (by simp) _⟩
 obtain⟨S,D0,g,cl⟩:=x;dsimp only at *
 go_enter func25,ntmps25
 go_upto_region 1 with fail
 generalize (w.alloc (J5 #[J1 A S.length C,J1 D D0.length E,J I g,J3 cl] 48)).alloc (J5 #[J1 A' S.length C',J1 j D0.length l,J I g,J3 cl] 48)=w0 at *;have v:w0.cell? ⟨w.heap.size,0,none⟩=some (J1 A S.length C):=a.out.1.cell 0;have y:w0.cell? ⟨w.heap.size,1,none⟩=some (J1 D D0.length E):=a.out.1.cell 1;have R:w0.cell? ⟨w.heap.size,2,none⟩=some (J I g):=a.out.1.cell 2;have T:w0.cell? ⟨w.heap.size,3,none⟩=some (J3 cl):=a.out.1.cell 3;have b0:w0.cell? ⟨w.heap.size+1,0,none⟩=some (J1 A' S.length C'):=a.out.2.1.cell 0;have b1:w0.cell? ⟨w.heap.size+1,1,none⟩=some (J1 j D0.length l):=a.out.2.1.cell 1;have b2:w0.cell? ⟨w.heap.size+1,2,none⟩=some (J I g):=a.out.2.1.cell 2;have b3:w0.cell? ⟨w.heap.size+1,3,none⟩=some (J3 cl):=a.out.2.1.cell 3;have U:=a.out.1.lt;have z:=a.out.2.1.lt
 go_upto_region 4 with fail
 clear v y R T b0 b1 b2 b3
 go_loopw [40] (fun i wl=>∃ k:Nat,k<=S.length/\i=J I (k:Int)/\Hid (Bl w0 wl)) (fun i _=>S.length - (intOf i).toNat)
 case atStart=>exact⟨0,by omega,rfl,Below.refl _ _⟩
 case round =>
  obtain⟨k,hk,rfl,h⟩:=hrel;have c:=zbt a.out.2.2 h.out;have d:=a.out.1.over h.out;have f:=a.out.2.1.over h.out;have L:=d.lt;have M:=f.lt
  by_cases u:k<S.length
  ·obtain⟨V,W,B,-,f1⟩:=H.out wr c;obtain⟨X,Y,F,-,f2⟩:=K.out wr c;cases B;cases F;have v:wr.cell? ⟨w.heap.size,0,none⟩=some (J1 A S.length C):=d.cell 0;have b0:wr.cell? ⟨w.heap.size+1,0,none⟩=some (J1 A' S.length C'):=f.cell 0;obtain⟨b,o,rfl,c0⟩:=f1 k u;obtain⟨Z,o',rfl,d0⟩:=f2 k u;clear f1 f2 d f c;generalize S.getD k ByteArray.empty=y0 at *;have hk0:(0:Int)<=(k:Int):=by omega
   have hk1:(k:Int)<(S.length:Int):=by omega
   go_upto_region 6 with fail
   go_quiet (fail);go_wp2;go_roundw
   case rel=>exact⟨k+1,by omega,by go_num,h.out.os,h.out.tape,h.out.output,h.out.size,h.out.block⟩
   case measure=>simp[intOf];omega
  ·have hk1:¬ (k:Int)<(S.length:Int):=by omega
   have y:wr.cell? ⟨w.heap.size,1,none⟩=some (J1 D D0.length E):=d.cell 1;have b1:wr.cell? ⟨w.heap.size+1,1,none⟩=some (J1 j D0.length l):=f.cell 1;have G:=J6 (show _/\_/\_ from⟨d,f,c⟩);clear d f c a h H K
   go_upto_region 10 with fail
   clear y b1
   go_loopw [58] (fun i wl=>∃ k:Nat,k<=D0.length/\i=J I (k:Int)/\Hid (Bl wr wl)) (fun i _=>D0.length - (intOf i).toNat)
   case atStart=>exact⟨0,by omega,rfl,Below.refl _ _⟩
   case round =>
    obtain⟨m,hm,rfl,h⟩:=hrel;have c:=zbt G.out.2.2 h.out;have d:=G.out.1.over h.out;have f:=G.out.2.1.over h.out;clear L M U z;have L:=d.lt;have M:=f.lt
    by_cases n:m<D0.length
    ·obtain⟨V,W,B,-,f1⟩:=N.out wr c;obtain⟨X,Y,F,-,f2⟩:=Q.out wr c;cases B;cases F;have v:wr.cell? ⟨w.heap.size,1,none⟩=some (J1 D D0.length E):=d.cell 1;have b0:wr.cell? ⟨w.heap.size+1,1,none⟩=some (J1 j D0.length l):=f.cell 1;obtain⟨b,o,rfl,c0⟩:=f1 m n;obtain⟨Z,o',rfl,d0⟩:=f2 m n;clear f1 f2 d f c;generalize D0.getD m 0=y0 at *;have a4:(0:Int)<=(m:Int):=by omega
     have a5:(m:Int)<(D0.length:Int):=by omega
     go_upto_region 12 with fail
     go_quiet (fail);go_wp2;go_roundw
     case rel=>exact⟨m+1,by omega,by go_num,h.out.os,h.out.tape,h.out.output,h.out.size,h.out.block⟩
     case measure=>simp[intOf];omega
    ·have HE:=J6 c;clear c d f;go_wp2;go_ret;exact⟨rfl,HE.out⟩
end Wd
namespace Wd
open Go.RowKit Pv Kc
def j8a(a b:Value):Sem Value:=binOp .eql 73 a b
theorem j3m(a b:Value):binOp .eql 73 a b=j8a a b:=rfl
theorem j8B(w:World)(b c d e f g:Bool):(Op.equalIn Op.maxDepth 73 (J4 #[J3 b,J3 c,J3 d,J3 e,J3 f,J3 g]) (J4 #[J3 b,J3 c,J3 d,J3 e,J3 f,J3 g])).run prog w=.ok true w:=by
 have a:(prog.info? 4).isSome=true:=by kernel_rfl
 obtain⟨i,a⟩:=Option.isSome_iff_exists.1 a;have hc:prog.cellsOf 4=1:=by kernel_rfl
 rw[show Op.maxDepth=9999+1 from rfl,run_equalIn_array w 9999 _ _ underlying73 a,hc,show List.range 6=[0,1,2,3,4,5] from rfl];simp only[Op.eqItems];go_simp
theorem q9I(w:World)(a b c d e f:Bool):(j8a (J4 #[J3 a,J3 b,J3 c,J3 d,J3 e,J3 f]) (J4 #[J3 a,J3 b,J3 c,J3 d,J3 e,J3 f])).run prog w=.ok (J3 true) w:=by
 have h:=fun w=>j8B w a b c d e f;unfold j8a binOp
 simp[Op.equal,h]
theorem j8K(w:World)(a b c d:Int):(binOp .eql 50 (J4 #[J I a,J I b,J I c,J I d]) (J4 #[J I a,J I b,J I c,J I d])).run prog w=.ok (J3 true) w:=by
 rw[run_eql_struct];go_simp
theorem j8R(w:World)(a b c d:Int):(binOp .neq 50 (J4 #[J I a,J I b,J I c,J I d]) (J4 #[J I a,J I b,J I c,J I d])).run prog w=.ok (J3 false) w:=by
 rw[run_neq_struct];go_simp
theorem q1n{w:World}{g:Nat}{c:Cs}{v:CsV}(h:CAt 75 w g (csC c v)):(w.cell? ⟨g,8,none⟩=some (J3 (c.fl 0))/\w.cell? ⟨g,9,none⟩=some (J3 (c.fl 1))/\w.cell? ⟨g,10,none⟩=some (J3 (c.fl 2))/\w.cell? ⟨g,11,none⟩=some (J3 (c.fl 3))/\w.cell? ⟨g,12,none⟩=some (J3 (c.fl 4))/\w.cell? ⟨g,13,none⟩=some (J3 (c.fl 5)))/\(w.cell? ⟨g,18,none⟩=some (J I c.h0)/\w.cell? ⟨g,19,none⟩=some (J I c.h1)/\w.cell? ⟨g,20,none⟩=some (J I c.h2)/\w.cell? ⟨g,21,none⟩=some (J I c.h3)):=
 ⟨⟨h.cell 8,h.cell 9,h.cell 10,h.cell 11,h.cell 12,h.cell 13⟩,⟨h.cell 18,h.cell 19,h.cell 20,h.cell 21⟩⟩
attribute [local go_sem ↓] j3m
theorem q5f(c:Cs)(v v':CsV)(P P':Nat->Prop)(w:World)(hp:CIn P w c v)(hp':CIn P' w c v') :
  Calls prog 14 #[J4 (csC c v),J4 (csC c v')] w fun e w'=>e=.returned (J3 true)/\Bl w w':=by
 obtain⟨N,vp,vr,v1,v2⟩:=v;obtain⟨h,d3,d4,i,j⟩:=v';obtain⟨z,m,n,Q⟩:=id hp.pd;obtain⟨z',f,g,o⟩:=id hp'.pd;obtain⟨Aq,Cq,eq,-,-,-,-⟩:=n.open (z0W _ _ m) (by decide)
 obtain⟨p,q,r,-,-,-,-⟩:=g.open (z0W _ _ f) (by decide)
 obtain⟨Ar,Cr,er,-,-,-,-⟩:=hp.rp.open (z0c _) (by decide)
 obtain⟨s,t,u,-,-,-,-⟩:=hp'.rp.open (z0c _) (by decide)
 dsimp only at eq r er u;subst eq r er u;clear m f Q o n g;have R:=J6 (fun (b:World) (hb:Bl w b)=>z3V c.set N h P P' b (hp.set.over hb) (hp'.set.over hb));have S:=J6 (fun (b:World) (hb:Bl w b)=>z8C c.out v1 v2 i j P P' b (hp.said.over hb) (hp.due.over hb) (hp'.said.over hb) (hp'.due.over hb));clear hp hp';obtain⟨cs,k⟩:∃ cs,csC c ⟨N,J1 Aq c.pd.length Cq,J1 Ar c.rp.length Cr,v1,v2⟩=cs:=⟨_,rfl⟩;obtain⟨cs',a⟩:∃ cs,csC c ⟨h,J1 p c.pd.length q,J1 s c.rp.length t,i,j⟩=cs:=⟨_,rfl⟩;rw[k,a];have l:=J6 (show _/\_ from⟨k,a⟩);clear k a
 go_enter func14,ntmps14
 go_upto_region 1 with fail
 have H:CAt 75 ((w.alloc (J5 cs 75)).alloc (J5 cs' 75)) w.heap.size (csC c ⟨N,J1 Aq c.pd.length Cq,J1 Ar c.rp.length Cr,v1,v2⟩):=by rw[l.out.1];exact (CAt.new _ w cs).alloc _
 have K:CAt 75 ((w.alloc (J5 cs 75)).alloc (J5 cs' 75)) (w.heap.size+1) (csC c ⟨h,J1 p c.pd.length q,J1 s c.rp.length t,i,j⟩):=by rw[l.out.2];exact CAt.new2 75 w _ cs'
 have B1:Bl w ((w.alloc (J5 cs 75)).alloc (J5 cs' 75)):=(znw w _).alloc (by simp) _
 generalize (w.alloc (J5 cs 75)).alloc (J5 cs' 75)=w1 at *;have L:=J6 (show _/\_/\_ from⟨H,K,B1⟩);obtain⟨⟨a0,a1,a2,a3,a4⟩,⟨a5,a6,a7⟩,⟨x,y,A,B⟩⟩:=z0G H;obtain⟨⟨b0,b1,b2,b3,b4⟩,⟨b5,b6,b7⟩,⟨C,D,E,F⟩⟩:=z0G K;obtain⟨⟨a8,a9,T,U,V,W⟩,⟨X,Y,Z,c4⟩⟩:=q1n H;obtain⟨⟨b8,b9,c5,c6,c7,c8⟩,⟨c9,d0,d1,d2⟩⟩:=q1n K;have hF:=fun b=>q9I b (c.fl 0) (c.fl 1) (c.fl 2) (c.fl 3) (c.fl 4) (c.fl 5);have hH:=fun b=>j8K b c.h0 c.h1 c.h2 c.h3;clear H K B1 l
 go_wp2_with (first
  | (go_at_call 20;refine (R.out _ L.out.2.2).mono ?_;rintro e w2⟨rfl,d⟩;have M:=J6 (show _/\_/\_ from⟨L.out.1.over d,L.out.2.1.over d,zbt L.out.2.2 d⟩);clear a0 a1 a2 a3 a4 a5 a6 a7 x y A B b0 b1 b2 b3 b4 b5 b6 b7 C D E F a8 a9 T U V W X Y Z c4 b8 b9 c5 c6 c7 c8 c9 d0 d1 d2 d;obtain⟨-,-,⟨x,y,A,B⟩⟩:=z0G M.out.1;obtain⟨-,-,⟨C,D,E,F⟩⟩:=z0G M.out.2.1)
  | (go_at_call 25;refine (S.out _ M.out.2.2).mono ?_;rintro e w3⟨rfl,G⟩;have HW:=J6 (zbt M.out.2.2 G);clear G))
 go_ret;exact⟨rfl,HW.out⟩
end Wd
namespace Wd
open Go.RowKit Pv Kc
theorem j5i(w:World)(p:Pr)(v:PrV):CAt 58 (j4b w p v) w.heap.size (prC p v):=(CAt.new 58 w zeroCells58).z0t (by rw[z0d];rfl)
theorem q5n(w:World)(p:Pr)(v:PrV):Bl w (j4b w p v):=z0a (Nat.le_refl _) _ _ _ (znw w _)
theorem j3F(w:World)(c:Cs)(v:CsV):CAt 75 (q9L w c v) w.heap.size (csC c v):=(CAt.new 75 w Z22).z0t (by rw[z0p];rfl)
theorem q3V(w:World)(c:Cs)(v:CsV):Bl w (q9L w c v):=z0a (Nat.le_refl _) _ _ _ (znw w _)
end Wd
namespace Wd
open Go.RowKit Pv Kc
theorem j1o{n:Nat}{w w':World}(h:n=w.heap.size)(b:Below n w w'):Bl w w':=by
 subst h;exact b
attribute [local go_sem ↓] z1r z1j
noncomputable def j8r:Code:=q2V [1,1,1,1,1,1,1,1] (f9.body.getD .skip)
set_option maxRecDepth 1000000 in
theorem j3P(Q:Ending->World->Prop)(n g g2 bw:Nat)(x:Wo)(w1 wl:World)(q6:Hid (∀ w',Below n w1 w'->Q (.returned (J3 true)) w'))(HT:Hid (T1 n g g2 bw x w1))(HB:Hid (Below n w1 wl))
  {v1 v2 v4 v5 v6 v7 v8 v9 q7 q8 q9 r0 r3 r4 r5 r6 r7 r8 r9 s0 s1 s3 s4 s5 s6 s7 s8 s9 t2 t3 t4 t5 t6 t7 t8 t9 u0 u3 u4 u5 u6 u7 u8 u9 w4 w7 w8 w9 x0 x1 x2 x3 x4 x5 x6 x7 x8 x9 y1 y2 y3 y4 y5 y6 y7 y8 y9 z1 z2 z3 z4 z5 z6 z7 z8 z9 A1 A2 A3 A4 A5 A6 A7 A8 A9 B1 B2 B3 B4 B5 B6 B7 B8 B9 C1 C2 C4 C5 a0 a1 a2 a3 a4 a5 a6 a7 a8 a9 b4 b5 b6 b7 b8 b9 c4 c5 c6 c7 c8 c9 d0 d1 d2 d3 d4 d5 d6 d7 d8 d9 e1 e2 e3 e4 e5 e6 e7 e8 e9 f4 f5 f6 f7 f8 g0 g1 g3 g5 g6 g8 g9 h4 h5 h6 h7 h8 h9 i2 i3 i4 i5 i6 i7 i8 i9 j0 j1 j2 j3 j4 j5 j6 j7 j8 j9 k2 k3 k4 k5 k6 k7 k8 k9 l1 l2 l3 l4 l5 l6 l7 l8 l9 m0 m1 m2 m3 m4 m5 m6 m7 m8 m9 n2 n3 n4 n5 n6 n7 n8 n9 o0 o1 o2 o3 o4 o5:Value}:Code.wp prog j8r (bodyPost prog f9 Q) ⟨List.toArray ((J2 (some ⟨g,0,none⟩)) :: v1 :: v2 :: (J2 (some ⟨bw,0,none⟩)) :: v4 :: v5 :: v6 :: v7 :: v8 :: v9 :: q7 :: q8 :: q9 :: r0 :: r3 :: r4 :: r5 :: r6 :: r7 :: r8 :: r9 :: s0 :: s1 :: s3 :: s4 :: s5 :: s6 :: s7 :: s8 :: s9 :: t2 :: t3 :: t4 :: t5 :: t6 :: t7 :: t8 :: t9 :: u0 :: u3 :: u4 :: u5 :: u6 :: u7 :: u8 :: u9 :: w4 :: w7 :: w8 :: w9 :: x0 :: x1 :: x2 :: x3 :: x4 :: x5 :: x6 :: x7 :: x8 :: x9 :: y1 :: y2 :: y3 :: y4 :: y5 :: y6 :: y7 :: y8 :: y9 :: z1 :: z2 :: z3 :: z4 :: z5 :: z6 :: z7 :: z8 :: z9 :: A1 :: A2 :: A3 :: A4 :: A5 :: A6 :: A7 :: A8 :: A9 :: B1 :: B2 :: B3 :: B4 :: B5 :: B6 :: B7 :: B8 :: B9 :: C1 :: C2 :: C4 :: C5 :: a0 :: a1 :: a2 :: a3 :: a4 :: a5 :: a6 :: a7 :: a8 :: a9 :: b4 :: b5 :: b6 :: b7 :: b8 :: b9 :: c4 :: c5 :: c6 :: c7 :: c8 :: c9 :: d0 :: d1 :: d2 :: d3 :: d4 :: d5 :: d6 :: d7 :: d8 :: d9 :: e1 :: e2 :: e3 :: e4 :: e5 :: e6 :: e7 :: e8 :: e9 :: f4 :: f5 :: f6 :: f7 :: f8 :: g0 :: g1 :: g3 :: g5 :: g6 :: g8 :: g9 :: h4 :: h5 :: h6 :: h7 :: h8 :: h9 :: i2 :: i3 :: i4 :: i5 :: i6 :: i7 :: i8 :: i9 :: j0 :: j1 :: j2 :: j3 :: j4 :: j5 :: j6 :: j7 :: j8 :: j9 :: k2 :: k3 :: k4 :: k5 :: k6 :: k7 :: k8 :: k9 :: l1 :: l2 :: l3 :: l4 :: l5 :: l6 :: l7 :: l8 :: l9 :: m0 :: m1 :: m2 :: m3 :: m4 :: m5 :: m6 :: m7 :: m8 :: m9 :: n2 :: n3 :: n4 :: n5 :: n6 :: n7 :: n8 :: n9 :: o0 :: o1 :: o2 :: o3 :: o4 :: o5 :: []),[]⟩ wl:=by
 conv=>arg 2;whnf
 go_upto_region 42 with fail
 go_loopw [17] (fun i wl=>∃ (c:Nat),c<=2/\i=J I (c:Int)/\Hid (Below n w1 wl)) (fun i _=>2 - (intOf i).toNat)
 case atStart=>exact⟨0,by omega,rfl,HB⟩
 case round =>
  obtain⟨c,hc,rfl,K⟩:=hrel;clear HB
  by_cases o6:c<2
  ·have C6:(c:Int)<2:=by omega
   obtain⟨P1,S1⟩:=HT.out.a;obtain⟨P2,S2⟩:=HT.out.o;have bR:=j1o HT.out.eq K.out;have C7:n<=wr.heap.size:=by have:=HT.out.eq;have:=bR.size;omega
   have o7:=J6 ((S1.over bR).cons c o6);have X:=J6 (show _/\_ from⟨S2.over bR,HT.out.cp.over bR⟩);clear S1 S2 bR
   go_upto_region 45 with (go_at_call 13;refine o7.out.mono ?_;rintro e t⟨p,rfl,I2,b2⟩;have s2:=z8p I2.rep;unfold Z22 at s2;have L:=J6 (show _/\_ from⟨I2,b2⟩);clear I2 b2)
   clear o7;have bL:=q3V t (x.c c) p;have b3:=zbt L.out.2 bL;have C8:=L.out.2.size;have I3:z7N (fun b=>n<=b/\b≠t.heap.size) (q9L t (x.c c) p) (x.c c) p:=(L.out.1.mono (P':=fun b=>n<=b/\b≠t.heap.size) fun b hl hb=>⟨by omega,by omega⟩).over bL
   have C3:=j3F t (x.c c) p;obtain⟨z,W3⟩:=I3.wr;have A:Hid (CS n t.heap.size w1 (x.c c) p z (q9L t (x.c c) p)/\CIn (fun b=>n<=b/\b≠t.heap.size) (q9L t (x.c c) p) (x.c c) p/\StP P2 g2 x (q9L t (x.c c) p)/\CAt 23 (q9L t (x.c c) p) bw #[J2 (some ⟨g2,0,none⟩)]):=⟨⟨K.out.trans (b3.mono C7),C3,W3⟩,I3.rep,X.out.1.over b3,X.out.2.over b3⟩;clear bL b3 C8 I3 C3 W3 L X K s2;generalize q9L t (x.c c) p=w3 at *;generalize C9:t.heap.size=gc at *;clear C9;obtain⟨G,Y⟩:∃ G:World->Prop,G=fun f=>Bl w3 f:=⟨_,rfl⟩
   have M:∀ f wy,G f->Bl f wy->G wy:=fun f wy h hb=>by
    rw[Y]at h ⊢;exact zbt h hb
   have N:∀ f,G f->G f.drew:=fun f h=>M _ _ h (Below.refl _ _).drew;have H:G w3:=by rw[Y];exact Below.refl _ _
   have zb:=A.out.1.cat.lt;have zc:=A.out.2.2.2.lt
   have hS:∀ f,G f->(z5b (J2 (some ⟨gc,0,none⟩))).run prog f=.ok (J4 (csC (x.c c) p)) f/\f.cell? ⟨bw,0,none⟩=some (J2 (some ⟨g2,0,none⟩)):=fun f h=>by
    rw[Y]at h;exact⟨z2p (A.out.1.cat.over h) (z0i _ _),(A.out.2.2.2.over h).cell 0⟩
   have o8:∀ f,G f->Calls prog 13 #[J2 (some ⟨g2,0,none⟩),J I (c:Int)] f fun e w'=>∃ v',e=.returned (J4 (csC (x.c c) v'))/\(∃ Q,CIn Q w' (x.c c) v')/\G w':=fun f h=>by
    have h':=h;rw[Y]at h';exact ((A.out.2.2.1.over h').cons c o6).mono fun e w' ⟨v',he,hi,hb⟩=>⟨v',he,⟨_,hi.rep⟩,M _ _ h hb⟩
   have o9:∀ u f,(∃ Q,CIn Q f (x.c c) u)->G f->Calls prog 14 #[J4 (csC (x.c c) p),J4 (csC (x.c c) u)] f fun e w'=>e=.returned (J3 true)/\G w':=fun u f ⟨Q,hq⟩ h=>by
    have h':=h;rw[Y]at h';exact (q5f (x.c c) p u _ _ f (A.out.2.1.over h') hq).mono fun e w' ⟨he,hb⟩=>⟨he,M _ _ h hb⟩
   have T:Hid (∀ f,G f->CS n gc w1 (x.c c) p z f):=fun f h=>by
    rw[Y]at h;exact⟨A.out.1.bel.trans (h.mono (by have:=A.out.1.bel.size;have:=HT.out.eq;omega)),A.out.1.cat.over h,A.out.1.wr.over h⟩
   clear Y M A
   go_region_held3 (fun f=>(z5b (J2 (some ⟨gc,0,none⟩))).run prog f=.ok (J4 (csC (x.c c) p)) f/\f.cell? ⟨bw,0,none⟩=some (J2 (some ⟨g2,0,none⟩))) (first | exact hS _ H | exact hS _ (N _ H))
    (first
     | (go_at_call 13;refine (o8 _ (by first | exact H | exact N _ H)).mono ?_;rintro e wy⟨vz,rfl,hq,H⟩;have r:=J6 hq;clear hq;dsimp only)
     | (go_at_call 14;refine (o9 _ _ r.out (by first | exact H | exact N _ H)).mono ?_;rintro e wy⟨rfl,H⟩;dsimp only))
   rename_i hHe;have d:=J6 (T.out _ H);clear hHe o8 o9 hS N T r H zb zc;simp only[Exit.then];apply_assumption;obtain⟨l0,Z,C0,B⟩:=(d.out.wr.set).shape;have c0:wy.cell? ⟨gc,5,none⟩=some (J1 Z (x.c c).set.length C0):=by rw[<- B];exact d.out.cat.cell 5
   have z0:=d.out.cat.lt;clear B
   go_upto_region 48 with fail
   go_loopw [152] (fun i wl=>∃ (k:Nat),k<=(x.c c).set.length/\i=J I (k:Int)/\Hid (CS n gc w1 (x.c c) p z wl)) (fun i _=>(x.c c).set.length - (intOf i).toNat)
   case atStart=>exact⟨0,Nat.zero_le _,rfl,d⟩
   case round =>
    obtain⟨k,hj,rfl,r⟩:=hrel;clear d c0 z0;have d:=r;clear r
    by_cases l:k<(x.c c).set.length
    ·have s:(k:Int)<((x.c c).set.length:Int):=by omega
     obtain⟨b,off,C,u,v,U,V,D,hc,hf⟩:=(d.out.wr.set).at_ l (j:=1) (by decide)
     have cx:wr.cell? ⟨gc,5,none⟩=some (J1 (some ⟨b,off,none⟩) (x.c c).set.length C):=by rw[<- v];exact d.out.cat.cell 5
     have E:=d.out.cat.lt;have P:=J6 (d.out.row U V (by decide) (off+k * 2+1) (J I (-1)))
     clear U V v d;go_wp2;exact⟨⟨k+1,by omega,by go_num,P⟩,by simp[intOf];omega⟩
    ·have s:¬ (k:Int)<((x.c c).set.length:Int):=by omega
     obtain⟨l0,Z,C0,B⟩:=(d.out.wr.pd).shape;have c0:wr.cell? ⟨gc,6,none⟩=some (J1 Z (x.c c).pd.length C0):=by rw[<- B];exact d.out.cat.cell 6
     have z0:=d.out.cat.lt;clear B
     go_upto_region 53 with fail
     go_loopw [164] (fun i wl=>∃ (k:Nat),k<=(x.c c).pd.length/\i=J I (k:Int)/\Hid (CS n gc w1 (x.c c) p z wl)) (fun i _=>(x.c c).pd.length - (intOf i).toNat)
     case atStart=>exact⟨0,Nat.zero_le _,rfl,d⟩
     case round =>
      obtain⟨k,hj,rfl,r⟩:=hrel;clear d c0 z0;have d:=r;clear r
      by_cases l:k<(x.c c).pd.length
      ·have s:(k:Int)<((x.c c).pd.length:Int):=by omega
       obtain⟨b,off,C,u,v,-,-,D,-,-⟩:=(d.out.wr.pd).at_ l (j:=1) (by decide)
       obtain⟨m,Wm⟩:=(d.out.wr.ps k l).1;obtain⟨lm,Am,Cm,ez⟩:=Wm.shape;have cx:wr.cell? ⟨gc,6,none⟩=some (J1 (some ⟨b,off,none⟩) (x.c c).pd.length C):=by rw[<- v];exact d.out.cat.cell 6
       have cz:wr.cell? ⟨b,off+k * 6+4,none⟩=some (J1 Am m Cm):=by rw[<- ez];exact (d.out.wr.ps k l).2 b off C v
       have E:=d.out.cat.lt;have w:=J6 (show _/\_ from⟨v,ez⟩);clear Wm v ez
       go_upto_region 56 with fail
       go_loopw [174] (fun i wl=>∃ (q:Nat),q<=m/\i=J I (q:Int)/\Hid (CS n gc w1 (x.c c) p z wl)) (fun i _=>m - (intOf i).toNat)
       case atStart=>exact⟨0,Nat.zero_le _,rfl,d⟩
       case round =>
        obtain⟨q,hq,rfl,r⟩:=hrel;clear d cx cz E D;have d:=r;clear r;have cx:wr.cell? ⟨gc,6,none⟩=some (J1 (some ⟨b,off,none⟩) (x.c c).pd.length C):=by rw[<- w.out.1];exact d.out.cat.cell 6
        have cz:wr.cell? ⟨b,off+k * 6+4,none⟩=some (J1 Am m Cm):=by rw[<- w.out.2];exact (d.out.wr.ps k l).2 b off C w.out.1
        have E:=d.out.cat.lt;have D:b<wr.heap.size:=World.block_lt_of_cell? wr _ cz
        by_cases p9:q<m
        ·have D0:(q:Int)<(m:Int):=by omega
         obtain⟨b',W,C',u',y,F,R,q4,D1,D2⟩:=(d.out.wr.psm l w.out.2).at_ p9 (j:=1) (by decide)
         rw[w.out.2]at y;cases y;have P:=J6 (d.out.row F R (by decide) (W+q * 2+1) (J I (-1)))
         clear F R d;go_wp2;exact⟨⟨q+1,by omega,by go_num,P⟩,by simp[intOf];omega⟩
        ·have D0:¬ (q:Int)<(m:Int):=by omega
         obtain⟨b',W,C',u',y,F,R,q4,D1,D2⟩:=(d.out.wr.pd).at_ l (j:=1) (by decide)
         have q5:=y;rw[w.out.1]at y;cases y;have P:=J6 (d.out.id_ F q5 k (J I (-1)));clear F R q5 d cz;go_wp2;exact⟨⟨k+1,by omega,by go_num,P⟩,by simp[intOf];omega⟩
      ·have s:¬ (k:Int)<((x.c c).pd.length:Int):=by omega
       obtain⟨l0,Z,C0,B⟩:=(d.out.wr.rp).shape;have c0:wr.cell? ⟨gc,7,none⟩=some (J1 Z (x.c c).rp.length C0):=by rw[<- B];exact d.out.cat.cell 7
       have z0:=d.out.cat.lt;clear B
       go_upto_region 63 with fail
       go_loopw [196] (fun i wl=>∃ (k:Nat),k<=(x.c c).rp.length/\i=J I (k:Int)/\Hid (CS n gc w1 (x.c c) p z wl)) (fun i _=>(x.c c).rp.length - (intOf i).toNat)
       case atStart=>exact⟨0,Nat.zero_le _,rfl,d⟩
       case round =>
        obtain⟨k,hj,rfl,r⟩:=hrel;clear d c0 z0;have d:=r;clear r
        by_cases l:k<(x.c c).rp.length
        ·have s:(k:Int)<((x.c c).rp.length:Int):=by omega
         obtain⟨b,off,C,u,v,U,V,D,hc,hf⟩:=(d.out.wr.rp).at_ l (j:=1) (by decide)
         have cx:wr.cell? ⟨gc,7,none⟩=some (J1 (some ⟨b,off,none⟩) (x.c c).rp.length C):=by rw[<- v];exact d.out.cat.cell 7
         have E:=d.out.cat.lt;have P:=J6 (d.out.row U V (by decide) (off+k * 2+1) (J I (-1)))
         clear U V v d;go_wp2;exact⟨⟨k+1,by omega,by go_num,P⟩,by simp[intOf];omega⟩
        ·have s:¬ (k:Int)<((x.c c).rp.length:Int):=by omega
         obtain⟨l0,Z,C0,B⟩:=(d.out.wr.said).shape;have c0:wr.cell? ⟨gc,14,none⟩=some (J1 Z (x.c c).out.S.length C0):=by rw[<- B];exact d.out.cat.cell 14
         have z0:=d.out.cat.lt;clear B
         go_upto_region 68 with fail
         go_loopw [209] (fun i wl=>∃ (k:Nat),k<=(x.c c).out.S.length/\i=J I (k:Int)/\Hid (CS n gc w1 (x.c c) p z wl)) (fun i _=>(x.c c).out.S.length - (intOf i).toNat)
         case atStart=>exact⟨0,Nat.zero_le _,rfl,d⟩
         case round =>
          obtain⟨k,hj,rfl,r⟩:=hrel;clear d c0 z0;have d:=r;clear r
          by_cases l:k<(x.c c).out.S.length
          ·have s:(k:Int)<((x.c c).out.S.length:Int):=by omega
           obtain⟨b,off,C,u,v,U,V,D,hc,hf⟩:=(d.out.wr.said).at_ l (j:=0) (by decide)
           rw[Nat.mul_one,Nat.add_zero]at hc hf;have cx:wr.cell? ⟨gc,14,none⟩=some (J1 (some ⟨b,off,none⟩) (x.c c).out.S.length C):=by rw[<- v];exact d.out.cat.cell 14
           have E:=d.out.cat.lt;have P:=J6 (d.out.row U V (by decide) (off+k) (.string ⟨#[115,112,111,105,108,116]⟩))
           clear U V v d;go_wp2;exact⟨⟨k+1,by omega,by go_num,P⟩,by simp[intOf];omega⟩
          ·have s:¬ (k:Int)<((x.c c).out.S.length:Int):=by omega
           go_wp2;exact⟨⟨c+1,by omega,by go_num,d.out.bel⟩,by simp[intOf];omega⟩
  ·have C6:¬ (c:Int)<2:=by omega
   go_wp2;exact q6.out _ K.out
end Wd
namespace Wd
open Go.RowKit Pv Kc
noncomputable def j8n:Code:=q2V [1,1,1,1,1,1,1] (f9.body.getD .skip)
set_option maxRecDepth 1000000 in
theorem j3g(Q:Ending->World->Prop)(n g g2 bw gp:Nat)(x:Wo)(v:PrV)(w1 wl:World)(d:Hid (∀ w',Below n w1 w'->Q (.returned (J3 true)) w'))(HT:Hid (T1 n g g2 bw x w1))(e:Hid (PS n gp w1 x.p v wl))
  {v1 v2 v4 v5 v6 v7 v9 l4 l5 l6 l7 l8 l9 m0 m1 m2 m3 m4 m5 m6 m7 m8 m9 n2 n3 n4 n5 n6 n7 n8 n9 o0 o1 o2 o3 o4 o5 o6 o7 o8 o9 p9 q4 q5 q6 q7 q8 q9 r0 r3 r4 r5 r6 r7 r8 r9 s0 s1 s2 s3 s4 s5 s6 s7 s8 s9 t2 t3 t4 t5 t6 t7 t8 t9 u0 u3 u4 u5 u6 u7 u8 u9 v8 w2 w3 w4 w7 w8 w9 x0 x1 x2 x3 x4 x5 x6 x7 f h l m o r s t w y z A B D E F G L M N P R S T U V W X Y Z a0 a1 a2 a3 a4 a5 a6 a7 a8 a9 b4 b5 b6 b7 b8 b9 c4 c5 c6 c7 c8 c9 d0 d1 d2 d3 d4 d5 d6 d7 d8 d9 e1 e2 e3 e4 e5 e6 e7 e8 e9 f4 f5 f6 f7 f8 g0 g1 g3 g5 g6 g8 g9 h4 h5 h6 h7 h8 h9 i2 i3 i4 i5 i6 i7 i8 i9 j0 j1 j2 j3 j4 j5 j6 j7 j8 j9 k2 k3 k4 k5 k6 k7 k8 k9 l1 l2 l3:Value}:Code.wp prog j8n (bodyPost prog f9 Q) ⟨List.toArray ((J2 (some ⟨g,0,none⟩)) :: v1 :: v2 :: (J2 (some ⟨bw,0,none⟩)) :: v4 :: v5 :: v6 :: v7 :: (J2 (some ⟨gp,0,none⟩)) :: v9 :: l4 :: l5 :: l6 :: l7 :: l8 :: l9 :: m0 :: m1 :: m2 :: m3 :: m4 :: m5 :: m6 :: m7 :: m8 :: m9 :: n2 :: n3 :: n4 :: n5 :: n6 :: n7 :: n8 :: n9 :: o0 :: o1 :: o2 :: o3 :: o4 :: o5 :: o6 :: o7 :: o8 :: o9 :: p9 :: q4 :: q5 :: q6 :: q7 :: q8 :: q9 :: r0 :: r3 :: r4 :: r5 :: r6 :: r7 :: r8 :: r9 :: s0 :: s1 :: s2 :: s3 :: s4 :: s5 :: s6 :: s7 :: s8 :: s9 :: t2 :: t3 :: t4 :: t5 :: t6 :: t7 :: t8 :: t9 :: u0 :: u3 :: u4 :: u5 :: u6 :: u7 :: u8 :: u9 :: v8 :: w2 :: w3 :: w4 :: w7 :: w8 :: w9 :: x0 :: x1 :: x2 :: x3 :: x4 :: x5 :: x6 :: x7 :: f :: h :: l :: m :: o :: r :: s :: t :: w :: y :: z :: A :: B :: D :: E :: F :: G :: L :: M :: N :: P :: R :: S :: T :: U :: V :: W :: X :: Y :: Z :: a0 :: a1 :: a2 :: a3 :: a4 :: a5 :: a6 :: a7 :: a8 :: a9 :: b4 :: b5 :: b6 :: b7 :: b8 :: b9 :: c4 :: c5 :: c6 :: c7 :: c8 :: c9 :: d0 :: d1 :: d2 :: d3 :: d4 :: d5 :: d6 :: d7 :: d8 :: d9 :: e1 :: e2 :: e3 :: e4 :: e5 :: e6 :: e7 :: e8 :: e9 :: f4 :: f5 :: f6 :: f7 :: f8 :: g0 :: g1 :: g3 :: g5 :: g6 :: g8 :: g9 :: h4 :: h5 :: h6 :: h7 :: h8 :: h9 :: i2 :: i3 :: i4 :: i5 :: i6 :: i7 :: i8 :: i9 :: j0 :: j1 :: j2 :: j3 :: j4 :: j5 :: j6 :: j7 :: j8 :: j9 :: k2 :: k3 :: k4 :: k5 :: k6 :: k7 :: k8 :: k9 :: l1 :: l2 :: l3 :: []),[]⟩ wl:=by
 conv=>arg 2;whnf
 have HL:=J6 (fun wx (H:Hid (PS n gp w1 x.p v wx))=>@j3P Q n g g2 bw x w1 wx d HT H.out.bel);refine wp_seq_k (fun K hK=>?_);have HK:Hid (∀ a w',Code.wp prog j8r (bodyPost prog f9 Q) a w'->K a w'):=hK;clear hK HT d;obtain⟨l0,A0,C0,e0⟩:=(e.out.wr.q).shape;have c0:wl.cell? ⟨gp,96,none⟩=some (J1 A0 x.p.q.length C0):=by rw[<- e0];exact e.out.cat.cell 96
 have z0:=e.out.cat.lt;clear e0
 go_upto_region 37 with fail
 go_loopw [127] (fun i wl=>∃ (k:Nat),k<=x.p.q.length/\i=J I (k:Int)/\Hid (PS n gp w1 x.p v wl)) (fun i _=>x.p.q.length - (intOf i).toNat)
 case atStart=>exact⟨0,Nat.zero_le _,rfl,e⟩
 case round =>
  obtain⟨k,hj,rfl,HQ⟩:=hrel;clear e c0 z0;have c:=HQ;clear HQ
  by_cases x8:k<x.p.q.length
  ·have x9:(k:Int)<(x.p.q.length:Int):=by omega
   obtain⟨b,off,C,u,ev,hP,hU,y1,hc,hf⟩:=(c.out.wr.q).at_ x8 (j:=0) (by decide)
   rw[Nat.add_zero]at hc hf;have cx:wr.cell? ⟨gp,96,none⟩=some (J1 (some ⟨b,off,none⟩) x.p.q.length C):=by rw[<- ev];exact c.out.cat.cell 96
   have y2:=c.out.cat.lt;have HN:=J6 (c.out.set hP (off+k * 7) (J I (-1)));clear hP hU ev c;go_wp2;exact⟨⟨k+1,by omega,by go_num,HN⟩,by simp[intOf];omega⟩
  ·have x9:¬ (k:Int)<(x.p.q.length:Int):=by omega
   go_wp2;exact HK.out _ _ (HL.out wr c)
noncomputable def j8h:Code:=q2V [1,1,1,1,1,1] (f9.body.getD .skip)
set_option maxRecDepth 1000000 in
theorem j3R(Q:Ending->World->Prop)(n g g2 bw gp:Nat)(x:Wo)(v:PrV)(w1 wl:World)(y:Hid (∀ w',Below n w1 w'->Q (.returned (J3 true)) w'))(HT:Hid (T1 n g g2 bw x w1))(HS:Hid (PS n gp w1 x.p v wl))
  {v1 v2 v4 v5 v6 v7 v9 n5 n6 n7 n8 n9 o0 o1 o2 o3 o4 o5 o6 o7 o8 o9 p9 q4 q5 q6 q7 q8 q9 r0 r3 r4 r5 r6 r7 r8 r9 s0 s1 s2 s3 s4 s5 s6 s7 s8 s9 t2 t3 t4 t5 t6 t7 t8 t9 u0 u3 u4 u5 u6 u7 u8 u9 v8 w2 w3 w4 w7 w8 w9 x0 x1 x2 x3 x4 x5 x6 x7 x8 x9 y1 y2 y3 y4 y5 y6 y7 y8 y9 z1 z2 z3 z4 z5 z6 z7 z8 z A B E F G M N P R T U V W X Y Z a0 a1 a2 a3 a4 a5 a6 a7 a8 a9 b4 b5 b6 b7 b8 b9 c4 c5 c6 c7 c8 c9 d0 d1 d2 d3 d4 d5 d6 d7 d8 d9 e1 e2 e3 e4 e5 e6 e7 e8 e9 f4 f5 f6 f7 f8 g0 g1 g3 g5 g6 g8 g9 h4 h5 h6 h7 h8 h9 i2 i3 i4 i5 i6 i7 i8 i9 j0 j1 j2 j3 j4 j5 j6 j7 j8 j9 k2 k3 k4 k5 k6 k7 k8 k9 l1 l2 l3 l4 l5 l6 l7 l8 l9 m0 m1 m2 m3 m4 m5 m6:Value}:Code.wp prog j8h (bodyPost prog f9 Q) ⟨List.toArray ((J2 (some ⟨g,0,none⟩)) :: v1 :: v2 :: (J2 (some ⟨bw,0,none⟩)) :: v4 :: v5 :: v6 :: v7 :: (J2 (some ⟨gp,0,none⟩)) :: v9 :: n5 :: n6 :: n7 :: n8 :: n9 :: o0 :: o1 :: o2 :: o3 :: o4 :: o5 :: o6 :: o7 :: o8 :: o9 :: p9 :: q4 :: q5 :: q6 :: q7 :: q8 :: q9 :: r0 :: r3 :: r4 :: r5 :: r6 :: r7 :: r8 :: r9 :: s0 :: s1 :: s2 :: s3 :: s4 :: s5 :: s6 :: s7 :: s8 :: s9 :: t2 :: t3 :: t4 :: t5 :: t6 :: t7 :: t8 :: t9 :: u0 :: u3 :: u4 :: u5 :: u6 :: u7 :: u8 :: u9 :: v8 :: w2 :: w3 :: w4 :: w7 :: w8 :: w9 :: x0 :: x1 :: x2 :: x3 :: x4 :: x5 :: x6 :: x7 :: x8 :: x9 :: y1 :: y2 :: y3 :: y4 :: y5 :: y6 :: y7 :: y8 :: y9 :: z1 :: z2 :: z3 :: z4 :: z5 :: z6 :: z7 :: z8 :: z :: A :: B :: E :: F :: G :: M :: N :: P :: R :: T :: U :: V :: W :: X :: Y :: Z :: a0 :: a1 :: a2 :: a3 :: a4 :: a5 :: a6 :: a7 :: a8 :: a9 :: b4 :: b5 :: b6 :: b7 :: b8 :: b9 :: c4 :: c5 :: c6 :: c7 :: c8 :: c9 :: d0 :: d1 :: d2 :: d3 :: d4 :: d5 :: d6 :: d7 :: d8 :: d9 :: e1 :: e2 :: e3 :: e4 :: e5 :: e6 :: e7 :: e8 :: e9 :: f4 :: f5 :: f6 :: f7 :: f8 :: g0 :: g1 :: g3 :: g5 :: g6 :: g8 :: g9 :: h4 :: h5 :: h6 :: h7 :: h8 :: h9 :: i2 :: i3 :: i4 :: i5 :: i6 :: i7 :: i8 :: i9 :: j0 :: j1 :: j2 :: j3 :: j4 :: j5 :: j6 :: j7 :: j8 :: j9 :: k2 :: k3 :: k4 :: k5 :: k6 :: k7 :: k8 :: k9 :: l1 :: l2 :: l3 :: l4 :: l5 :: l6 :: l7 :: l8 :: l9 :: m0 :: m1 :: m2 :: m3 :: m4 :: m5 :: m6 :: []),[]⟩ wl:=by
 conv=>arg 2;whnf
 have HL:=J6 (fun wx (H:Hid (PS n gp w1 x.p v wx))=>@j3g Q n g g2 bw gp x v w1 wx y HT H);have A1:=J6 HT.out.eq;have A2:=J6 (fun c (hc:c<2)=>((z1J _).1 (HT.out.inv.gp.lk c hc).out).1);refine wp_seq_k (fun K hK=>?_);have HK:Hid (∀ a w',Code.wp prog j8n (bodyPost prog f9 Q) a w'->K a w'):=hK;clear hK HT y;have z9:=HS.out.cat.lt
 go_upto_region 17 with fail
 go_loopw [62] (fun i wl=>∃ (c:Nat),c<=2/\i=J I (c:Int)/\Hid (PS n gp w1 x.p v wl)) (fun i _=>2 - (intOf i).toNat)
 case atStart=>exact⟨0,by omega,rfl,HS⟩
 case round =>
  obtain⟨c,hc,rfl,d⟩:=hrel;clear HS z9
  by_cases f:c<2
  ·have A3:(c:Int)<2:=by omega
   have z9:=d.out.cat.lt;obtain⟨l0,A0,C0,q⟩:=(d.out.wr.told c f).shape;have c0:wr.cell? ⟨gp,66+c * 14+3,none⟩=some (J1 A0 (x.p.L c).told.length C0):=by rw[<- q];exact ((d.out.cat.cell (66+c * 14+3)).trans (z1s c f 3 (by omega))).trans rfl
   have z0:=d.out.cat.lt;clear q
   go_upto_region 21 with fail
   go_loopw [73] (fun i wl=>∃ (k:Nat),k<=(x.p.L c).told.length/\i=J I (k:Int)/\Hid (PS n gp w1 x.p v wl)) (fun i _=>(x.p.L c).told.length - (intOf i).toNat)
   case atStart=>exact⟨0,Nat.zero_le _,rfl,d⟩
   case round =>
    obtain⟨k,hj,rfl,h⟩:=hrel;clear d c0 z0;have d:=h;clear h
    by_cases m:k<(x.p.L c).told.length
    ·have o:(k:Int)<((x.p.L c).told.length:Int):=by omega
     obtain⟨b,off,C,u,r,s,w,m7,hc,hf⟩:=(d.out.wr.told c f).at_ m (j:=1) (by decide)
     have cx:wr.cell? ⟨gp,66+c * 14+3,none⟩=some (J1 (some ⟨b,off,none⟩) (x.p.L c).told.length C):=by rw[<- r];exact ((d.out.cat.cell (66+c * 14+3)).trans (z1s c f 3 (by omega))).trans rfl
     have m8:=d.out.cat.lt;have HN:=J6 (d.out.set s (off+k * 2+1) (J I (-1)));clear s w r d;go_wp2;exact⟨⟨k+1,by omega,by go_num,HN⟩,by simp[intOf];omega⟩
    ·have o:¬ (k:Int)<((x.p.L c).told.length:Int):=by omega
     obtain⟨l0,A0,C0,q⟩:=(d.out.wr.done c f).shape;have c0:wr.cell? ⟨gp,66+c * 14+5,none⟩=some (J1 A0 (x.p.L c).done.length C0):=by rw[<- q];exact ((d.out.cat.cell (66+c * 14+5)).trans (z1s c f 5 (by omega))).trans rfl
     have z0:=d.out.cat.lt;clear q
     go_upto_region 26 with fail
     go_loopw [89] (fun i wl=>∃ (k:Nat),k<=(x.p.L c).done.length/\i=J I (k:Int)/\Hid (PS n gp w1 x.p v wl)) (fun i _=>(x.p.L c).done.length - (intOf i).toNat)
     case atStart=>exact⟨0,Nat.zero_le _,rfl,d⟩
     case round =>
      obtain⟨k,hj,rfl,h⟩:=hrel;clear d c0 z0;have d:=h;clear h
      by_cases m:k<(x.p.L c).done.length
      ·have o:(k:Int)<((x.p.L c).done.length:Int):=by omega
       obtain⟨b,off,C,u,r,s,w,m7,hc,hf⟩:=(d.out.wr.done c f).at_ m (j:=0) (by decide)
       rw[Nat.mul_one,Nat.add_zero]at hc hf;have cx:wr.cell? ⟨gp,66+c * 14+5,none⟩=some (J1 (some ⟨b,off,none⟩) (x.p.L c).done.length C):=by rw[<- r];exact ((d.out.cat.cell (66+c * 14+5)).trans (z1s c f 5 (by omega))).trans rfl
       have m8:=d.out.cat.lt;have HN:=J6 (d.out.set s (off+k) (J I (-1)));clear s w r d;go_wp2;exact⟨⟨k+1,by omega,by go_num,HN⟩,by simp[intOf];omega⟩
      ·have o:¬ (k:Int)<((x.p.L c).done.length:Int):=by omega
       obtain⟨l0,A0,C0,q⟩:=(d.out.wr.said c f).shape;have c0:wr.cell? ⟨gp,66+c * 14+6,none⟩=some (J1 A0 (x.p.L c).out.S.length C0):=by rw[<- q];exact ((d.out.cat.cell (66+c * 14+6)).trans (z1s c f 6 (by omega))).trans rfl
       have z0:=d.out.cat.lt;clear q
       go_upto_region 31 with fail
       go_loopw [105] (fun i wl=>∃ (k:Nat),k<=(x.p.L c).out.S.length/\i=J I (k:Int)/\Hid (PS n gp w1 x.p v wl)) (fun i _=>(x.p.L c).out.S.length - (intOf i).toNat)
       case atStart=>exact⟨0,Nat.zero_le _,rfl,d⟩
       case round =>
        obtain⟨k,hj,rfl,h⟩:=hrel;clear d c0 z0
        by_cases m:k<(x.p.L c).out.S.length
        ·have o:(k:Int)<((x.p.L c).out.S.length:Int):=by omega
         have m9:k<(x.p.L c).out.D.length:=by have:=A2.out c f;omega
         have A9:(k:Int)<((x.p.L c).out.D.length:Int):=by omega
         obtain⟨b,off,C,u,r,s,w,m7,hc,hf⟩:=(h.out.wr.said c f).at_ m (j:=0) (by decide)
         obtain⟨b',l,C',u',n2,n3,t,A6,n4,A4⟩:=(h.out.wr.due c f).at_ m9 (j:=0) (by decide)
         rw[Nat.mul_one,Nat.add_zero]at hc hf n4 A4;have cx:wr.cell? ⟨gp,66+c * 14+6,none⟩=some (J1 (some ⟨b,off,none⟩) (x.p.L c).out.S.length C):=by rw[<- r];exact ((h.out.cat.cell (66+c * 14+6)).trans (z1s c f 6 (by omega))).trans rfl
         have cy:wr.cell? ⟨gp,66+c * 14+7,none⟩=some (J1 (some ⟨b',l,none⟩) (x.p.L c).out.D.length C'):=by rw[<- n2];exact ((h.out.cat.cell (66+c * 14+7)).trans (z1s c f 7 (by omega))).trans rfl
         have A5:b'≠b:=t.ne w (by decide)
         have m8:=h.out.cat.lt;have HN:=J6 (((h.out.set s (off+k) (.string ⟨#[115,112,111,105,108,116]⟩)).set n3 (l+k) (J I (-1))).over (Below.refl _ _).drew (Nat.le_of_eq A1.out));have A7:(wr.setCell ⟨b,off+k,none⟩ (.string ⟨#[115,112,111,105,108,116]⟩)).cell? ⟨b',l+k,none⟩=some u':=by rw[World.cell?_setCell_other _ _ _ _ (fun e=>A5 (congrArg Addr.block e).symm)];exact n4
         have A8:=(t.set b (off+k) (.string ⟨#[115,112,111,105,108,116]⟩)).free (l+k);clear s w r n3 t n2 h
         go_upto_region 33 with fail
         go_region_with (fail)
         all_goals
          simp only[Exit.inBlock,Exit.then];apply_assumption;go_wp2;exact⟨⟨k+1,by omega,by go_num,HN⟩,by simp[intOf];omega⟩
        ·have o:¬ (k:Int)<((x.p.L c).out.S.length:Int):=by omega
         have d:=h;clear h;go_wp2;exact⟨⟨c+1,by omega,by go_num,d⟩,by simp[intOf];omega⟩
  ·have A3:¬ (c:Int)<2:=by omega
   go_wp2;exact HK.out _ _ (HL.out wr d)
noncomputable def j8i:Code:=q2V [1,1,1,1,1] (f9.body.getD .skip)
set_option maxRecDepth 1000000 in
theorem j4l(Q:Ending->World->Prop)(n g g2 bw gp:Nat)(x:Wo)(v:PrV)(w1 wl:World)(d:Hid (∀ w',Below n w1 w'->Q (.returned (J3 true)) w'))(HT:Hid (T1 n g g2 bw x w1))(e:Hid (PS n gp w1 x.p v wl))
  {v1 v2 v4 v5 v6 v7 v9 l3 l4 l5 l6 l7 l8 l9 m0 m1 m2 m3 m4 m5 m6 m7 m8 m9 n2 n3 n4 n5 n6 n7 n8 n9 o0 o1 o2 o3 o4 o5 o6 o7 o8 o9 p9 q4 q5 q6 q7 q8 q9 r0 r3 r4 r5 r6 r7 r8 r9 s0 s1 s2 s3 s4 s5 s6 s7 s8 s9 t2 t3 t4 t5 t6 t7 t8 t9 u0 u3 u4 u5 u6 u7 u8 u9 v8 w2 w3 w4 w7 w8 w9 x0 x1 x2 x3 x4 x5 x6 f h l m o q r s t w y z A B D E F G L M N P R S T U V W X Y Z a0 a1 a2 a3 a4 a5 a6 a7 a8 a9 b4 b5 b6 b7 b8 b9 c4 c5 c6 c7 c8 c9 d0 d1 d2 d3 d4 d5 d6 d7 d8 d9 e1 e2 e3 e4 e5 e6 e7 e8 e9 f4 f5 f6 f7 f8 g0 g1 g3 g5 g6 g8 g9 h4 h5 h6 h7 h8 h9 i2 i3 i4 i5 i6 i7 i8 i9 j0 j1 j2 j3 j4 j5 j6 j7 j8 j9 k2 k3 k4 k5 k6 k7 k8 k9 l1 l2:Value}:Code.wp prog j8i (bodyPost prog f9 Q) ⟨List.toArray ((J2 (some ⟨g,0,none⟩)) :: v1 :: v2 :: (J2 (some ⟨bw,0,none⟩)) :: v4 :: v5 :: v6 :: v7 :: (J2 (some ⟨gp,0,none⟩)) :: v9 :: l3 :: l4 :: l5 :: l6 :: l7 :: l8 :: l9 :: m0 :: m1 :: m2 :: m3 :: m4 :: m5 :: m6 :: m7 :: m8 :: m9 :: n2 :: n3 :: n4 :: n5 :: n6 :: n7 :: n8 :: n9 :: o0 :: o1 :: o2 :: o3 :: o4 :: o5 :: o6 :: o7 :: o8 :: o9 :: p9 :: q4 :: q5 :: q6 :: q7 :: q8 :: q9 :: r0 :: r3 :: r4 :: r5 :: r6 :: r7 :: r8 :: r9 :: s0 :: s1 :: s2 :: s3 :: s4 :: s5 :: s6 :: s7 :: s8 :: s9 :: t2 :: t3 :: t4 :: t5 :: t6 :: t7 :: t8 :: t9 :: u0 :: u3 :: u4 :: u5 :: u6 :: u7 :: u8 :: u9 :: v8 :: w2 :: w3 :: w4 :: w7 :: w8 :: w9 :: x0 :: x1 :: x2 :: x3 :: x4 :: x5 :: x6 :: f :: h :: l :: m :: o :: q :: r :: s :: t :: w :: y :: z :: A :: B :: D :: E :: F :: G :: L :: M :: N :: P :: R :: S :: T :: U :: V :: W :: X :: Y :: Z :: a0 :: a1 :: a2 :: a3 :: a4 :: a5 :: a6 :: a7 :: a8 :: a9 :: b4 :: b5 :: b6 :: b7 :: b8 :: b9 :: c4 :: c5 :: c6 :: c7 :: c8 :: c9 :: d0 :: d1 :: d2 :: d3 :: d4 :: d5 :: d6 :: d7 :: d8 :: d9 :: e1 :: e2 :: e3 :: e4 :: e5 :: e6 :: e7 :: e8 :: e9 :: f4 :: f5 :: f6 :: f7 :: f8 :: g0 :: g1 :: g3 :: g5 :: g6 :: g8 :: g9 :: h4 :: h5 :: h6 :: h7 :: h8 :: h9 :: i2 :: i3 :: i4 :: i5 :: i6 :: i7 :: i8 :: i9 :: j0 :: j1 :: j2 :: j3 :: j4 :: j5 :: j6 :: j7 :: j8 :: j9 :: k2 :: k3 :: k4 :: k5 :: k6 :: k7 :: k8 :: k9 :: l1 :: l2 :: []),[]⟩ wl:=by
 conv=>arg 2;whnf
 have HL:=J6 (fun wx (H:Hid (PS n gp w1 x.p v wx))=>@j3R Q n g g2 bw gp x v w1 wx d HT H);refine wp_seq_k (fun K hK=>?_);have HK:Hid (∀ a w',Code.wp prog j8h (bodyPost prog f9 Q) a w'->K a w'):=hK;clear hK HT d;obtain⟨l0,A0,C0,e0⟩:=(e.out.wr.set).shape;have c0:wl.cell? ⟨gp,65,none⟩=some (J1 A0 x.p.set.length C0):=by rw[<- e0];exact e.out.cat.cell 65
 have z0:=e.out.cat.lt;clear e0
 go_upto_region 12 with fail
 go_loopw [53] (fun i wl=>∃ (k:Nat),k<=x.p.set.length/\i=J I (k:Int)/\Hid (PS n gp w1 x.p v wl)) (fun i _=>x.p.set.length - (intOf i).toNat)
 case atStart=>exact⟨0,Nat.zero_le _,rfl,e⟩
 case round =>
  obtain⟨k,hj,rfl,HQ⟩:=hrel;clear e c0 z0;have c:=HQ;clear HQ
  by_cases x7:k<x.p.set.length
  ·have x8:(k:Int)<(x.p.set.length:Int):=by omega
   obtain⟨b,off,C,u,ev,hP,hU,x9,hc,hf⟩:=(c.out.wr.set).at_ x7 (j:=1) (by decide)
   have cx:wr.cell? ⟨gp,65,none⟩=some (J1 (some ⟨b,off,none⟩) x.p.set.length C):=by rw[<- ev];exact c.out.cat.cell 65
   have y1:=c.out.cat.lt;have HN:=J6 (c.out.set hP (off+k * 2+1) (J I (-1)));clear hP hU ev c;go_wp2;exact⟨⟨k+1,by omega,by go_num,HN⟩,by simp[intOf];omega⟩
  ·have x8:¬ (k:Int)<(x.p.set.length:Int):=by omega
   go_wp2;exact HK.out _ _ (HL.out wr c)
noncomputable def j8t:Code:=q2V [1,1,1,1] (f9.body.getD .skip)
set_option maxRecDepth 1000000 in
theorem j3l(Q:Ending->World->Prop)(n g g2 bw gp:Nat)(x:Wo)(v:PrV)(w1 wl:World)(d:Hid (∀ w',Below n w1 w'->Q (.returned (J3 true)) w'))(HT:Hid (T1 n g g2 bw x w1))(e:Hid (PS n gp w1 x.p v wl))
  {v1 v2 v4 v5 v6 v7 v9 l5 l6 l7 l8 l9 m0 m1 m2 m3 m4 m5 m6 m7 m8 m9 n2 n3 n4 n5 n6 n7 n8 n9 o0 o1 o2 o3 o4 o5 o6 o7 o8 o9 p9 q4 q5 q6 q7 q8 q9 r0 r3 r4 r5 r6 r7 r8 r9 s0 s1 s2 s3 s4 s5 s6 s7 s8 s9 t2 t3 t4 t5 t6 t7 t8 t9 u0 u3 u4 u5 u6 u7 u8 u9 v8 w2 w3 w4 w7 w8 w9 x0 x1 x2 x3 x4 x5 x6 x7 x8 f h l m o q r t w y z A B D E F G L M N P R S T U V X Y Z a0 a1 a2 a3 a4 a5 a6 a7 a8 a9 b4 b5 b6 b7 b8 b9 c4 c5 c6 c7 c8 c9 d0 d1 d2 d3 d4 d5 d6 d7 d8 d9 e1 e2 e3 e4 e5 e6 e7 e8 e9 f4 f5 f6 f7 f8 g0 g1 g3 g5 g6 g8 g9 h4 h5 h6 h7 h8 h9 i2 i3 i4 i5 i6 i7 i8 i9 j0 j1 j2 j3 j4 j5 j6 j7 j8 j9 k2 k3 k4 k5 k6 k7 k8 k9 l1 l2 l3 l4:Value}:Code.wp prog j8t (bodyPost prog f9 Q) ⟨List.toArray ((J2 (some ⟨g,0,none⟩)) :: v1 :: v2 :: (J2 (some ⟨bw,0,none⟩)) :: v4 :: v5 :: v6 :: v7 :: (J2 (some ⟨gp,0,none⟩)) :: v9 :: l5 :: l6 :: l7 :: l8 :: l9 :: m0 :: m1 :: m2 :: m3 :: m4 :: m5 :: m6 :: m7 :: m8 :: m9 :: n2 :: n3 :: n4 :: n5 :: n6 :: n7 :: n8 :: n9 :: o0 :: o1 :: o2 :: o3 :: o4 :: o5 :: o6 :: o7 :: o8 :: o9 :: p9 :: q4 :: q5 :: q6 :: q7 :: q8 :: q9 :: r0 :: r3 :: r4 :: r5 :: r6 :: r7 :: r8 :: r9 :: s0 :: s1 :: s2 :: s3 :: s4 :: s5 :: s6 :: s7 :: s8 :: s9 :: t2 :: t3 :: t4 :: t5 :: t6 :: t7 :: t8 :: t9 :: u0 :: u3 :: u4 :: u5 :: u6 :: u7 :: u8 :: u9 :: v8 :: w2 :: w3 :: w4 :: w7 :: w8 :: w9 :: x0 :: x1 :: x2 :: x3 :: x4 :: x5 :: x6 :: x7 :: x8 :: f :: h :: l :: m :: o :: q :: r :: t :: w :: y :: z :: A :: B :: D :: E :: F :: G :: L :: M :: N :: P :: R :: S :: T :: U :: V :: X :: Y :: Z :: a0 :: a1 :: a2 :: a3 :: a4 :: a5 :: a6 :: a7 :: a8 :: a9 :: b4 :: b5 :: b6 :: b7 :: b8 :: b9 :: c4 :: c5 :: c6 :: c7 :: c8 :: c9 :: d0 :: d1 :: d2 :: d3 :: d4 :: d5 :: d6 :: d7 :: d8 :: d9 :: e1 :: e2 :: e3 :: e4 :: e5 :: e6 :: e7 :: e8 :: e9 :: f4 :: f5 :: f6 :: f7 :: f8 :: g0 :: g1 :: g3 :: g5 :: g6 :: g8 :: g9 :: h4 :: h5 :: h6 :: h7 :: h8 :: h9 :: i2 :: i3 :: i4 :: i5 :: i6 :: i7 :: i8 :: i9 :: j0 :: j1 :: j2 :: j3 :: j4 :: j5 :: j6 :: j7 :: j8 :: j9 :: k2 :: k3 :: k4 :: k5 :: k6 :: k7 :: k8 :: k9 :: l1 :: l2 :: l3 :: l4 :: []),[]⟩ wl:=by
 conv=>arg 2;whnf
 have HL:=J6 (fun wx (H:Hid (PS n gp w1 x.p v wx))=>@j4l Q n g g2 bw gp x v w1 wx d HT H);refine wp_seq_k (fun K hK=>?_);have HK:Hid (∀ a w',Code.wp prog j8i (bodyPost prog f9 Q) a w'->K a w'):=hK;clear hK HT d;obtain⟨l0,A0,C0,e0⟩:=(e.out.wr.ws).shape;have c0:wl.cell? ⟨gp,63,none⟩=some (J1 A0 x.p.s.W.length C0):=by rw[<- e0];exact e.out.cat.cell 63
 have z0:=e.out.cat.lt;clear e0
 go_upto_region 7 with fail
 go_loopw [40] (fun i wl=>∃ (k:Nat),k<=x.p.s.W.length/\i=J I (k:Int)/\Hid (PS n gp w1 x.p v wl)) (fun i _=>x.p.s.W.length - (intOf i).toNat)
 case atStart=>exact⟨0,Nat.zero_le _,rfl,e⟩
 case round =>
  obtain⟨k,hj,rfl,HQ⟩:=hrel;clear e c0 z0;have c:=HQ;clear HQ
  by_cases x9:k<x.p.s.W.length
  ·have y1:(k:Int)<(x.p.s.W.length:Int):=by omega
   obtain⟨b,off,C,u,ev,hP,hU,y2,hc,hf⟩:=(c.out.wr.ws).at_ x9 (j:=3) (by decide)
   have cx:wr.cell? ⟨gp,63,none⟩=some (J1 (some ⟨b,off,none⟩) x.p.s.W.length C):=by rw[<- ev];exact c.out.cat.cell 63
   have y3:=c.out.cat.lt;have HN:=J6 (c.out.set hP (off+k * 8+3) (J I (-1)));clear hP hU ev c;go_wp2;exact⟨⟨k+1,by omega,by go_num,HN⟩,by simp[intOf];omega⟩
  ·have y1:¬ (k:Int)<(x.p.s.W.length:Int):=by omega
   go_wp2;exact HK.out _ _ (HL.out wr c)
end Wd
namespace Wd
open Go.RowKit Pv
abbrev ZL0:Array Value:=#[J3 false,J3 false,J I 0,J1 none 0 0,J3 false,J1 none 0 0,J1 none 0 0,J1 none 0 0,J I 0,J3 false,J I 0,J I 0,J I 0,J I 0]
noncomputable def j7u:Code:=q2V [1,1,1,0,1,9,9,1,1,0,9,1,0] (f12.body.getD .skip)
attribute [local go_sem ↓] q1i
set_option maxRecDepth 1000000 in
theorem j3o(g g' k:Nat)(hk:k<2)(p:Pr)(v v':PrV)(wl:World)(h:CAt 58 wl g (prC p v))(h':CAt 58 wl g' (prC p v'))(v0 v1 v4 v5 v7 v8 v9 e0 e1 e2 e3 e4 e5 e6 e7 e8 e9 f4 f5 f6 f7 f8 f9 g0 g1 g3 g5 g6 g8 g9 h4 h5 h6 h7 h8 h9 i2 i3 i4 i5 i6 i7 i8 i9 j0 j1 j2 j3 j4 j5 j6 j7 j8 j9 k2 k3 k4 k5 k6 k7 k8 k9 l0 l3 l4 l5 l6 l7 l8 l9 m0 m1 m2 m3 m4 m5 m6 m7 m8 m9 n2 n3 n4 n5 n6 n7 n8 n9 o0 o3 o4 o5 o6 o7 o8 o9 p9 n q r s t w x q4 q5 q6 q7 q8 q9 r0 r3 y z A B C D E F G H M N P R T U V W X Y a0 a1 a2 a3 a4 a5 a6 a7 a8 a9 b4 b5 b6 b7 b8 b9 c4 c5 c6 c7 c8 c9 d0 d1 d2 d3 d4 d5 d6 d7 d8 d9:Value)(Q:Exit->Act->World->Prop)
  (f:(∀ u∈lkL (p.L k) (v.l k),u.oneCell'=true)/\∀ u∈lkL (p.L k) (v'.l k),u.oneCell'=true)
  (hQ:∀ (x6 x7:Nat) (t107 r4 r5 r6 r7 r8 r9 s0:Value) (w5:World),Bl wl w5->CAt 52 w5 x6 (lkL (p.L k) (v.l k)).toArray->CAt 52 w5 x7 (lkL (p.L k) (v'.l k)).toArray->Q .normal ⟨List.toArray (v0 :: v1 :: (J2 (some ⟨g,0,none⟩)) :: (J2 (some ⟨g',0,none⟩)) :: v4 :: v5 :: (J I (k:Int)) :: (J2 (some ⟨x6,0,none⟩)) :: (J2 (some ⟨x7,0,none⟩)) :: v9 :: e0 :: e1 :: e2 :: e3 :: e4 :: e5 :: e6 :: e7 :: e8 :: e9 :: f4 :: f5 :: f6 :: f7 :: f8 :: f9 :: g0 :: g1 :: g3 :: g5 :: g6 :: g8 :: g9 :: h4 :: h5 :: h6 :: h7 :: h8 :: h9 :: i2 :: i3 :: i4 :: i5 :: i6 :: i7 :: i8 :: i9 :: j0 :: j1 :: j2 :: j3 :: j4 :: j5 :: j6 :: j7 :: j8 :: j9 :: k2 :: k3 :: k4 :: k5 :: k6 :: k7 :: k8 :: k9 :: l0 :: l3 :: l4 :: l5 :: l6 :: l7 :: l8 :: l9 :: m0 :: m1 :: m2 :: m3 :: m4 :: m5 :: m6 :: m7 :: m8 :: m9 :: n2 :: n3 :: n4 :: n5 :: n6 :: n7 :: n8 :: n9 :: o0 :: o3 :: o4 :: o5 :: o6 :: o7 :: o8 :: o9 :: p9 :: n :: q :: r :: s :: t :: w :: x :: (t107) :: (r4) :: (r5) :: (r6) :: (r7) :: (r8) :: (r9) :: (s0) :: y :: z :: A :: B :: C :: D :: E :: F :: G :: H :: M :: N :: P :: R :: T :: U :: V :: W :: X :: Y :: a0 :: a1 :: a2 :: a3 :: a4 :: a5 :: a6 :: a7 :: a8 :: a9 :: b4 :: b5 :: b6 :: b7 :: b8 :: b9 :: c4 :: c5 :: c6 :: c7 :: c8 :: c9 :: d0 :: d1 :: d2 :: d3 :: d4 :: d5 :: d6 :: d7 :: d8 :: d9 :: []),[]⟩ w5) :
  Code.wp prog j7u Q ⟨List.toArray (v0 :: v1 :: (J2 (some ⟨g,0,none⟩)) :: (J2 (some ⟨g',0,none⟩)) :: v4 :: v5 :: (J I (k:Int)) :: v7 :: v8 :: v9 :: e0 :: e1 :: e2 :: e3 :: e4 :: e5 :: e6 :: e7 :: e8 :: e9 :: f4 :: f5 :: f6 :: f7 :: f8 :: f9 :: g0 :: g1 :: g3 :: g5 :: g6 :: g8 :: g9 :: h4 :: h5 :: h6 :: h7 :: h8 :: h9 :: i2 :: i3 :: i4 :: i5 :: i6 :: i7 :: i8 :: i9 :: j0 :: j1 :: j2 :: j3 :: j4 :: j5 :: j6 :: j7 :: j8 :: j9 :: k2 :: k3 :: k4 :: k5 :: k6 :: k7 :: k8 :: k9 :: l0 :: l3 :: l4 :: l5 :: l6 :: l7 :: l8 :: l9 :: m0 :: m1 :: m2 :: m3 :: m4 :: m5 :: m6 :: m7 :: m8 :: m9 :: n2 :: n3 :: n4 :: n5 :: n6 :: n7 :: n8 :: n9 :: o0 :: o3 :: o4 :: o5 :: o6 :: o7 :: o8 :: o9 :: p9 :: n :: q :: r :: s :: t :: w :: x :: q4 :: q5 :: q6 :: q7 :: q8 :: q9 :: r0 :: r3 :: y :: z :: A :: B :: C :: D :: E :: F :: G :: H :: M :: N :: P :: R :: T :: U :: V :: W :: X :: Y :: a0 :: a1 :: a2 :: a3 :: a4 :: a5 :: a6 :: a7 :: a8 :: a9 :: b4 :: b5 :: b6 :: b7 :: b8 :: b9 :: c4 :: c5 :: c6 :: c7 :: c8 :: c9 :: d0 :: d1 :: d2 :: d3 :: d4 :: d5 :: d6 :: d7 :: d8 :: d9 :: []),[]⟩ wl:=by
 have HK:=J6 hQ;have hF:∀ d,Bl wl d->(q3Q (J2 (some ⟨g,66+k * 14,none⟩))).run prog d=.ok (J4 (lkL (p.L k) (v.l k)).toArray) d/\(q3Q (J2 (some ⟨g',66+k * 14,none⟩))).run prog d=.ok (J4 (lkL (p.L k) (v'.l k)).toArray) d:=fun d hb=>⟨q0J (h.over hb) k hk,q0J (h'.over hb) k hk⟩;have s1:(k:Int)<2:=by omega
 have hk0:(0:Int)<=(k:Int):=by omega
 clear hQ h h'
 conv=>arg 2;whnf
 refine wp_region_noPanic ?_;have hb:Bl wl wl.drew:=(Below.refl _ wl).drew;refine wp_region_held (S:=fun d=>Bl wl d) (by kernel_rfl) ?_
 change wpAnyH _ _ _ _ _ _ _ _ wl.drew;refine O.Z 0 (J I (k:Int)) 107 rfl rfl hb ?_ ?_
 ·intro d a;go_simp
 simp only[O.pp,O.pb,O.pc];refine O.Z 1 (J2 (some ⟨g,66,none⟩)) 108 rfl rfl hb ?_ ?_
 ·intro d a;go_simp
 simp only[O.pp,O.pb,O.pc];refine O.Z 2 (J2 (some ⟨g,66+k * 14,none⟩)) 109 rfl rfl hb ?_ ?_
 ·intro d a;go_simp
 simp only[O.pp,O.pb,O.pc];refine O.Z 3 (J4 (lkL (p.L k) (v.l k)).toArray) 110 rfl rfl hb ?_ ?_
 ·intro d a;obtain⟨l1,l2⟩:=hF d a;go_simp
 simp only[O.pp,O.pb,O.pc];refine O.Z 4 (J I (k:Int)) 111 rfl rfl hb ?_ ?_
 ·intro d a;go_simp
 simp only[O.pp,O.pb,O.pc];refine O.Z 5 (J2 (some ⟨g',66,none⟩)) 112 rfl rfl hb ?_ ?_
 ·intro d a;go_simp
 simp only[O.pp,O.pb,O.pc];refine O.Z 6 (J2 (some ⟨g',66+k * 14,none⟩)) 113 rfl rfl hb ?_ ?_
 ·intro d a;go_simp
 simp only[O.pp,O.pb,O.pc];refine O.Z 7 (J4 (lkL (p.L k) (v'.l k)).toArray) 114 rfl rfl hb ?_ ?_
 ·intro d a;obtain⟨l1,l2⟩:=hF d a;go_simp
 simp only[O.pp,O.pb,O.pc];refine O.z3j (i:=8) (j:=9) (by kernel_rfl) rfl rfl rfl rfl (fun K m=>?_) (fun K m=>?_)
 ·go_simp;refine m _ _ (hb.alloc (Nat.le_refl _) _) ?_;clear m K;refine O.z0R (i:=9) (by kernel_rfl) rfl rfl (fun K m=>?_)
  go_simp;refine m _ _ ((hb.alloc (Nat.le_refl _) _).alloc (by simp) _) ?_
  clear m K;have C0:CAt 52 ((wl.alloc (J5 ZL0 52)).alloc (J5 ZL0 52)).drew wl.heap.size ZL0:=(CAt.new 52 wl ZL0).alloc _;have C1:CAt 52 ((wl.alloc (J5 ZL0 52)).alloc (J5 ZL0 52)).drew (wl.heap.size+1) ZL0:=CAt.new2 52 wl (J5 ZL0 52) ZL0;have e:Bl wl ((wl.alloc (J5 ZL0 52)).alloc (J5 ZL0 52)).drew:=((znw wl _).alloc (by simp) _).drew
  generalize ((wl.alloc (J5 ZL0 52)).alloc (J5 ZL0 52)).drew=w2 at *;have o1:((lkL (p.L k) (v.l k)).toArray).all (·.oneCell')=true:=by rw[Array.all_eq_true_iff_forall_mem];exact fun u hu=>f.1 u (by simpa using hu)
  have o2:((lkL (p.L k) (v'.l k)).toArray).all (·.oneCell')=true:=by rw[Array.all_eq_true_iff_forall_mem];exact fun u hu=>f.2 u (by simpa using hu)
  refine O.z0n (i:=10) (by kernel_rfl) rfl rfl 52 _ _ rfl rfl (wl.heap.size+0) 0 (lkL (p.L k) (v.l k)).toArray rfl rfl (C0.there 0 _ (by show 0+14<=14;omega)) (by rw[q0t];rfl) o1 (z0a (b:=wl.heap.size+0) (by omega) _ 0 _ e) ?_
  refine O.z0n (i:=11) (by kernel_rfl) rfl rfl 52 _ _ rfl rfl (wl.heap.size+1) 0 (lkL (p.L k) (v'.l k)).toArray rfl rfl ((C1.others (c:=wl.heap.size+0) (o:=0) (by omega) _).there 0 _ (by show 0+14<=14;omega)) (by rw[q0t];rfl) o2 (z0a (b:=wl.heap.size+1) (by omega) _ 0 _ (z0a (b:=wl.heap.size+0) (by omega) _ 0 _ e)) ?_
  have D6:=(CAt.z0t (ds:=(lkL (p.L k) (v.l k)).toArray) C0 rfl).others (c:=wl.heap.size+1) (o:=0) (by omega) ((lkL (p.L k) (v'.l k)).toArray).toList
  have D7:=CAt.z0t (ds:=(lkL (p.L k) (v'.l k)).toArray) (C1.others (c:=wl.heap.size+0) (o:=0) (by omega) ((lkL (p.L k) (v.l k)).toArray).toList) rfl
  have DB:=z0a (b:=wl.heap.size+1) (by omega) ((lkL (p.L k) (v'.l k)).toArray).toList 0 _ (z0a (b:=wl.heap.size+0) (by omega) ((lkL (p.L k) (v.l k)).toArray).toList 0 _ e)
  refine wpAnyH_done (by kernel_rfl) ?_ _
  exact NoPanic.normal (HK.out (wl.heap.size+0) (wl.heap.size+1) _ _ _ _ _ _ _ _ _ DB D6 D7)
 ·go_simp;refine m _ _ (hb.alloc (Nat.le_refl _) _) ?_;clear m K;refine O.z0R (i:=8) (by kernel_rfl) rfl rfl (fun K m=>?_)
  go_simp;refine m _ _ ((hb.alloc (Nat.le_refl _) _).alloc (by simp) _) ?_
  clear m K;have C0:CAt 52 ((wl.alloc (J5 ZL0 52)).alloc (J5 ZL0 52)).drew wl.heap.size ZL0:=(CAt.new 52 wl ZL0).alloc _;have C1:CAt 52 ((wl.alloc (J5 ZL0 52)).alloc (J5 ZL0 52)).drew (wl.heap.size+1) ZL0:=CAt.new2 52 wl (J5 ZL0 52) ZL0;have e:Bl wl ((wl.alloc (J5 ZL0 52)).alloc (J5 ZL0 52)).drew:=((znw wl _).alloc (by simp) _).drew
  generalize ((wl.alloc (J5 ZL0 52)).alloc (J5 ZL0 52)).drew=w2 at *;have o1:((lkL (p.L k) (v.l k)).toArray).all (·.oneCell')=true:=by rw[Array.all_eq_true_iff_forall_mem];exact fun u hu=>f.1 u (by simpa using hu)
  have o2:((lkL (p.L k) (v'.l k)).toArray).all (·.oneCell')=true:=by rw[Array.all_eq_true_iff_forall_mem];exact fun u hu=>f.2 u (by simpa using hu)
  refine O.z0n (i:=10) (by kernel_rfl) rfl rfl 52 _ _ rfl rfl (wl.heap.size+1) 0 (lkL (p.L k) (v.l k)).toArray rfl rfl (C1.there 0 _ (by show 0+14<=14;omega)) (by rw[q0t];rfl) o1 (z0a (b:=wl.heap.size+1) (by omega) _ 0 _ e) ?_
  refine O.z0n (i:=11) (by kernel_rfl) rfl rfl 52 _ _ rfl rfl (wl.heap.size+0) 0 (lkL (p.L k) (v'.l k)).toArray rfl rfl ((C0.others (c:=wl.heap.size+1) (o:=0) (by omega) _).there 0 _ (by show 0+14<=14;omega)) (by rw[q0t];rfl) o2 (z0a (b:=wl.heap.size+0) (by omega) _ 0 _ (z0a (b:=wl.heap.size+1) (by omega) _ 0 _ e)) ?_
  have D6:=(CAt.z0t (ds:=(lkL (p.L k) (v.l k)).toArray) C1 rfl).others (c:=wl.heap.size+0) (o:=0) (by omega) ((lkL (p.L k) (v'.l k)).toArray).toList
  have D7:=CAt.z0t (ds:=(lkL (p.L k) (v'.l k)).toArray) (C0.others (c:=wl.heap.size+1) (o:=0) (by omega) ((lkL (p.L k) (v.l k)).toArray).toList) rfl
  have DB:=z0a (b:=wl.heap.size+0) (by omega) ((lkL (p.L k) (v'.l k)).toArray).toList 0 _ (z0a (b:=wl.heap.size+1) (by omega) ((lkL (p.L k) (v.l k)).toArray).toList 0 _ e)
  refine wpAnyH_done (by kernel_rfl) ?_ _
  exact NoPanic.normal (HK.out (wl.heap.size+1) (wl.heap.size+0) _ _ _ _ _ _ _ _ _ DB D6 D7)
end Wd
namespace Wd
open Go.RowKit Pv
def j2w(v:Value):Sem Value:=Instr.loadAt 38 v
theorem q6E(v:Value):Instr.loadAt 38 v=j2w v:=rfl
def j2D(v:Value):Sem Value:=Instr.loadAt 40 v
theorem q7c(v:Value):Instr.loadAt 40 v=j2D v:=rfl
def j2e(v:Value):Sem Value:=Instr.loadAt 35 v
theorem q7R(v:Value):Instr.loadAt 35 v=j2e v:=rfl
theorem j8c{w:World}{b:Nat}{p:Pr}{v:PrV}(h:CAt 58 w b (prC p v)):w.rangeAt b 2 (bkC p.s.b).toList:=by
 intro j u a;have c:j<7:=(List.getElem?_eq_some_iff.1 a).1;refine z6N h j u ?_;simp only[stC,stL];rw[List.getElem?_append_left (show j<(bkC p.s.b).toList.length from c)];exact a
theorem j7E{w:World}{b:Nat}{p:Pr}{v:PrV}(h:CAt 58 w b (prC p v)):w.rangeAt b 9 (vsC p.s.V).toList:=by
 intro j u a;have c:j<30:=(List.getElem?_eq_some_iff.1 a).1
 have:=z6N h (7+j) u (by
  simp only[stC,stL];rw[List.getElem?_append_right (by show 7<=7+j;omega),show 7+j - (bkC p.s.b).toList.length=j from by show 7+j - 7=j;omega,List.getElem?_append_left (show j<(vsC p.s.V).toList.length from c)]
  exact a)
 rwa [show 2+(7+j)=9+j by omega]at this
theorem j8e{w:World}{b:Nat}{p:Pr}{v:PrV}(h:CAt 58 w b (prC p v)):w.rangeAt b 39 (shC p.s.S).toList:=by
 intro j u a;have c:j<24:=(List.getElem?_eq_some_iff.1 a).1
 have:=z6N h (37+j) u (by
  simp only[stC,stL]
  rw[List.getElem?_append_right (by show 7<=37+j;omega),show 37+j - (bkC p.s.b).toList.length=30+j from by show 37+j - 7=30+j;omega,
   List.getElem?_append_right (by show 30<=30+j;omega),show 30+j - (vsC p.s.V).toList.length=j from by show 30+j - 30=j;omega,List.getElem?_append_left (show j<(shC p.s.S).toList.length from c)]
  exact a)
 rwa [show 2+(37+j)=39+j by omega]at this
theorem z7v{w:World}{b:Nat}{p:Pr}{v:PrV}(h:CAt 58 w b (prC p v)):(w.cell? ⟨b,0,none⟩=some (J I p.h)/\w.cell? ⟨b,1,none⟩=some (J I p.t)/\w.cell? ⟨b,63,none⟩=some v.ws/\w.cell? ⟨b,65,none⟩=some v.set/\w.cell? ⟨b,94,none⟩=some (J I p.ml)/\w.cell? ⟨b,95,none⟩=some (J I p.mn)/\w.cell? ⟨b,96,none⟩=some v.q)/\(j2e (J2 (some ⟨b,2,none⟩))).run prog w=.ok (J4 (bkC p.s.b)) w/\(j2w (J2 (some ⟨b,9,none⟩))).run prog w=.ok (J4 (vsC p.s.V)) w/\(j2D (J2 (some ⟨b,39,none⟩))).run prog w=.ok (J4 (shC p.s.S)) w:=by
 have h1:=run_loadAt_mid (P:=prog) w b 2 35 _ _ (j8c h) underlying35 rfl (by kernel_rfl)
 have h2:=run_loadAt_mid (P:=prog) w b 9 38 _ _ (j7E h) underlying38 rfl (by rw[j2A];rfl)
 have h3:=run_loadAt_mid (P:=prog) w b 39 40 _ _ (j8e h) underlying40 rfl (by rw[j6Z];rfl)
 refine⟨⟨h.cell 0,h.cell 1,h.cell 63,h.cell 65,h.cell 94,h.cell 95,h.cell 96⟩,?_,?_,?_⟩
 ·change (Instr.loadAt 35 _).run prog w=_
  simpa using h1
 ·change (Instr.loadAt 38 _).run prog w=_
  simpa using h2
 ·change (Instr.loadAt 40 _).run prog w=_
  simpa using h3
theorem j8x(w:World)(a b:Int):(binOp .neq 55 (J4 #[J I a,J I b]) (J4 #[J I a,J I b])).run prog w=.ok (J3 false) w:=by
 rw[run_neq_struct];go_simp
attribute [local go_sem ↓] q6E q7c q7R
set_option maxRecDepth 1000000 in
theorem q4T(p:Pr)(v v':PrV)(P P':Nat->Prop)(w:World)(hp:PIn P w p v)(hp':PIn P' w p v') :
  Calls prog 12 #[J4 (prC p v),J4 (prC p v')] w fun e w'=>e=.returned (J3 true)/\Bl w w':=by
 obtain⟨z,a2,a3,b4⟩:=id hp.q;obtain⟨z',C,D,a4⟩:=id hp'.q;obtain⟨Aq,Cq,eq,-,-,-,-⟩:=a3.open (z0U _ _ a2) (by decide)
 obtain⟨e3,e4,a5,-,-,-,-⟩:=D.open (z0U _ _ C) (by decide)
 obtain⟨Aw,Cw,bw,ow,n,Ws,-,-⟩:=hp.ws.z9Z;obtain⟨e5,e6,e7,e8,h,a6,-,-⟩:=hp'.ws.z9Z;have G:=J6 Ws;have H:=J6 a6;have e2:=Ws.len;clear a2 a3 b4 C D a4 Ws a6;have HP:=J6 hp;have K:=J6 hp';clear hp hp';obtain⟨cs,M⟩:∃ cs,prC p v=cs:=⟨_,rfl⟩;obtain⟨cs',o⟩:∃ cs,prC p v'=cs:=⟨_,rfl⟩;rw[M,o];have N:=J6 (show _/\_ from⟨M,o⟩);clear M o;have n1:=fun w=>j8S w p.s.V;have n2:=fun w=>j8V w p.s.S;have n3:∀ w,(binOp .neq 35 (J4 (bkC p.s.b)) (J4 (bkC p.s.b))).run prog w=.ok (J3 false) w:=fun w=>j8N w p.s.b;have n4:=fun w=>j8x w p.ml p.mn
 go_enter func12,ntmps12
 go_upto_region 1 with fail
 have C1:CAt 58 ((w.alloc (J5 cs 58)).alloc (J5 cs' 58)) w.heap.size (prC p v):=by rw[N.out.1];exact (CAt.new _ w cs).alloc _
 have D1:CAt 58 ((w.alloc (J5 cs 58)).alloc (J5 cs' 58)) (w.heap.size+1) (prC p v'):=by rw[N.out.2];exact CAt.new2 58 w _ cs'
 have B1:Bl w ((w.alloc (J5 cs 58)).alloc (J5 cs' 58)):=(znw w _).alloc (by simp) _
 generalize (w.alloc (J5 cs 58)).alloc (J5 cs' 58)=w1 at *;have HX:=J6 (show _/\_/\_ from⟨C1,D1,B1⟩);obtain⟨⟨a0,a1,f,Q,R,T,r⟩,ak,av,ax⟩:=z7v C1;rw[n]at f;rw[eq]at r;obtain⟨⟨b0,b1,A,b5,b6,b7,a7⟩,bk,bv,bx⟩:=z7v D1;rw[h]at A;rw[a5]at a7;clear C1 D1 B1 N;have a8:=J6 (fun (E:World) (hb:Bl w E)=>z3V p.set v.set v'.set P P' E (HP.out.set.over hb) (K.out.set.over hb))
 go_upto_region 3 with (go_at_call 20;refine (a8.out _ HX.out.2.2).mono ?_;rintro e w3⟨rfl,B⟩;have d:=J6 (show _/\_/\_ from⟨HX.out.1.over B,HX.out.2.1.over B,zbt HX.out.2.2 B⟩);clear a0 a1 Q R T r f ak av ax b0 b1 b5 b6 b7 a7 A bk bv bx B)
 clear n1 n2 n3 n4 HX a8;obtain⟨⟨a0,a1,f,Q,R,T,r⟩,ak,av,ax⟩:=z7v d.out.1;rw[n]at f;rw[eq]at r;clear a0 a1 Q R T r ak av ax
 go_upto_region 4 with fail
 clear f
 go_loopw [87] (fun i wl=>∃ (k:Nat),k<=p.s.W.length/\i=J I (k:Int)/\Hid (Bl w3 wl)) (fun i _=>p.s.W.length - (intOf i).toNat)
 case atStart=>exact⟨0,Nat.zero_le _,rfl,Below.refl _ _⟩
 case round =>
  obtain⟨k,hk,rfl,a⟩:=hrel
  by_cases t:k<p.s.W.length
  ·obtain⟨x,hx,_⟩:=drop_at t;have g:=zbt d.out.2.2 a.out;obtain⟨c0,c1,c2,c3,c4,c5,c6,c7⟩:=(G.out.over g).cell k x hx;obtain⟨d0,d1,d2,d3,d4,d5,d6,d7⟩:=(H.out.over g).cell k x hx;obtain⟨⟨-,-,f,-⟩,-⟩:=z7v (d.out.1.over a.out);obtain⟨⟨-,-,A,-⟩,-⟩:=z7v (d.out.2.1.over a.out);rw[n]at f;rw[h]at A;have n4:=fun w=>j8U w x;unfold wtC at n4;obtain rfl:=G.out.adr (by omega)
   obtain rfl:=H.out.adr (by omega)
   have hk0:(0:Int)<=(k:Int):=by omega
   have hk1:(k:Int)<(p.s.W.length:Int):=by omega
   clear hx g n h
   go_upto_region 6 with fail
   go_quiet (fail);go_wp2;go_roundw
   case rel=>exact⟨k+1,by omega,by go_num,a.out.os,a.out.tape,a.out.output,a.out.size,a.out.block⟩
   case measure=>simp[intOf];omega
  ·have hk1:¬ (k:Int)<(p.s.W.length:Int):=by omega
   have j:=J6 (show _/\_/\_ from⟨d.out.1.over a.out,d.out.2.1.over a.out,zbt d.out.2.2 a.out⟩);clear d a G H n h eq a5
   rename World=>w4
   go_upto_region 10 with fail
   go_loopw [104] (fun i wl=>∃ (k:Nat),k<=2/\i=J I (k:Int)/\Hid (Bl w4 wl)) (fun i _=>(2 - intOf i).toNat)
   case atStart=>exact⟨0,by omega,rfl,Below.refl _ _⟩
   case round =>
    obtain⟨m,hm,rfl,a⟩:=hrel
    by_cases U:m<2
    ·have e9:(m:Int)<2:=by omega
     go_upto_region 12 with fail
     have g:Bl w wr:=zbt j.out.2.2 a.out;have X:=(HP.out.lk m U).keep (w':=wr) fun b _ t=>g.block b t;have Y:=(K.out.lk m U).keep (w':=wr) fun b _ t=>g.block b t;refine j3o w.heap.size (w.heap.size+1) m U p v v' wr (j.out.1.over a.out) (j.out.2.1.over a.out) _ _ _ _ _ _ _ _ _ _ _ _ _ _ _ _ _ _ _ _ _ _ _ _ _ _ _ _ _ _ _ _ _ _ _ _ _ _ _ _ _ _ _ _ _ _ _ _ _ _ _ _ _ _ _ _ _ _ _ _ _ _ _ _ _ _ _ _ _ _ _ _ _ _ _ _ _ _ _ _ _ _ _ _ _ _ _ _ _ _ _ _ _ _ _ _ _ _ _ _ _ _ _ _ _ _ _ _ _ _ _ _ _ _ _ _ _ _ _ _ _ _ _ _ _ _ _ _ _ _ _ _ _ _ _ _ _ _ _ _ _ _ _ _ _ _ _ _ _ _ _ _ _ _ _ _ _ _ _ _ _ _ _ _ _ ⟨q3I X,q3I Y⟩ ?_;intro x6 x7 f4 f5 f6 f7 f8 f9 g0 g1 w5 Z h6 h7;have F:=J6 (show _/\_ from⟨X,Y⟩);have E5:=J6 (show _/\_/\_/\_ from⟨h6,h7,Z,zbt a.out Z⟩);clear X Y h6 h7 Z g a;obtain⟨c0,c1,-,c3,c4,c5,⟨c6,c7,c8,c9⟩,⟨ca,cb,cc,cd⟩⟩:=z6Q E5.out.1;obtain⟨d0,d1,-,d3,d4,d5,⟨d6,d7,d8,d9⟩,⟨da,db,dc,dd⟩⟩:=z6Q E5.out.2.1;generalize p.L m=x at *;generalize v.l m=u at *;generalize v'.l m=u' at *;obtain⟨D1,F1,b8,-,-⟩:=q5a F.out.1.done.c (Below.refl _ _);obtain⟨D2,F2,b9,-,-⟩:=q5a F.out.2.done.c (Below.refl _ _);rw[b8]at c5;rw[b9]at d5;have n5:=fun w=>j8R w x.h0 x.h1 x.h2 x.h3;have e0:=J6 (fun (E:World) (hb:Bl wr E)=>z3V x.told u.told u'.told _ _ E (F.out.1.told.over hb) (F.out.2.told.over hb));have e1:=J6 (fun (E:World) (hb:Bl wr E)=>z8C x.out u.said u.due u'.said u'.due _ _ E (F.out.1.said.over hb) (F.out.1.due.over hb) (F.out.2.said.over hb) (F.out.2.due.over hb));simp only[Exit.then];apply_assumption;clear HP K j
     go_wp2_with (first
      | (go_at_call 20;refine (e0.out _ E5.out.2.2.1).mono ?_;rintro e w6⟨rfl,y⟩;have E6:=J6 (show _/\_/\_/\_ from⟨E5.out.1.over y,E5.out.2.1.over y,zbt E5.out.2.2.1 y,zbt E5.out.2.2.2 y⟩);clear c0 c1 c3 c4 c5 c6 c7 c8 c9 ca cb cc cd d0 d1 d3 d4 d5 d6 d7 d8 d9 da db dc dd y;obtain⟨-,-,-,-,-,-,⟨c6,c7,c8,c9⟩,-⟩:=z6Q E6.out.1;obtain⟨-,-,-,-,-,-,⟨d6,d7,d8,d9⟩,-⟩:=z6Q E6.out.2.1)
      | (go_at_call 25;refine (e1.out _ E6.out.2.2.1).mono ?_;rintro e w8⟨rfl,a9⟩;have E8:=J6 (zbt E6.out.2.2.2 a9);clear c6 c7 c8 c9 d6 d7 d8 d9 a9))
     first | exact⟨⟨m+1,by omega,by go_num,E8⟩,by simp[intOf];omega⟩ | ((repeat apply Exists.intro);exact⟨⟨m+1,by omega,by go_num,E8⟩,rfl⟩)
    ·obtain rfl:m=2:=by omega
     have HE:=J6 (zbt j.out.2.2 a.out);clear a j;go_wp2;go_ret;exact⟨rfl,HE.out⟩
end Wd
namespace Wd
open Go.ChangeShapes Go.WideShapes Go.ChangeAt Go.RowKit Go.Deep Pv
theorem z9X.lt{w:World}{ao:Option Addr}{b off:Nat}{l:List Dd}(h:z9X w ao b off l)(h0:0<l.length):b<w.heap.size:=
 World.block_lt_of_cell? w ⟨b,off+0 * 7+0,none⟩ (h.cell 0 l[0] (List.getElem?_eq_getElem h0) 0 _ rfl)
theorem z9X.over{w w':World}{B:Nat}{ao:Option Addr}{b off:Nat}{l:List Dd}(h:z9X w ao b off l)(hb:Below B w w')(d:w.heap.size<=B):z9X w' ao b off l:=by
 refine⟨h.adr,h.len,fun i x a j v c=>?_⟩;have h0:0<l.length:=by have:=(List.getElem?_eq_some_iff.1 a).1;omega
 have:=h.lt h0;rw[hb.cell (p:=⟨b,off+i * 7+j,none⟩) (by show b<B;omega)]
 exact h.cell i x a j v c
theorem j2x:(prog.info? 28).map (·.size)=some 7:=by kernel_rfl
theorem z9X.load{w:World}{ao:Option Addr}{b off:Nat}{l:List Dd}(h:z9X w ao b off l){i:Nat}{x:Dd}(a:l[i]?=some x):(q1k (J2 (some ⟨b,off+i * 7,none⟩))).run prog w=.ok (J4 (ddC x)) w:=
 run_loadAt_mid (P:=prog) w b (off+i * 7) 28 (ddL x) _ (h.cell i x a) underlying28 rfl (by rw[j2x];rfl)
section
variable {H:Type} {enc:TypeId×Value->H} {W:World}
end
end Wd
namespace Wd
open Go.RowKit Pv Kc
theorem j7I(w:World)(a b:Int):(binOp .neq 31 (J4 #[J I a,J I b]) (J4 #[J I a,J I b])).run prog w=.ok (J3 false) w:=by
 rw[run_neq_struct];go_simp
theorem j1S{w:World}{g:Nat}{d:Dd}(h:CAt 28 w g (ddC d)):(q1k (J2 (some ⟨g,0,none⟩))).run prog w=.ok (J4 (ddC d)) w:=by
 have:=run_loadAt_mid (P:=prog) w g 0 28 (ddC d).toList _ h.range underlying28 rfl (by rw[j2x];rfl)
 change (Instr.loadAt 28 _).run prog w=_
 simpa using this
attribute [local go_sem ↓] z6Z z0H z0w
set_option maxRecDepth 1000000 in
theorem q0i(B g bw g2:Nat)(L:Nat->Prop)(x y:Wo)(d:Dd)(w:World)(v:StW B g x w)(hO:StP L g2 y w)(U:∀ b,w.heap.size<=b->L b)(V:CAt 23 w bw #[J2 (some ⟨g2,0,none⟩)])(hx:(doW y d).1=x)(b7:g2<B)(W:bw≠g2) :
  Calls prog 9 #[J2 (some ⟨g,0,none⟩),J4 (ddC d),J4 #[J I (doW y d).2.1,J I (doW y d).2.2],J2 (some ⟨bw,0,none⟩)] w fun e w'=>e=.returned (J3 true)/\StW B g x w'/\StP L g2 x w'/\CAt 23 w' bw #[J2 (some ⟨g2,0,none⟩)]/\Alt g2 w w':=by
 have X:=J6 v.inv;have b8:g2<w.heap.size:=by have:=v.le;have:=v.lt;omega
 have M:=J6 (fun (c:World) (hb:Bl w c)=>(hO.over hb).do_ d (fun b h=>U b (by have:=hb.size;omega)))
 rw[hx]at M;generalize (doW y d).2.1=ec at *;generalize (doW y d).2.2=en at *;have q:=J6 (show _/\_ from⟨v,V⟩);have f:Hid (Bl w ((w.alloc (J5 (ddC d) 28)).alloc (J5 #[J I ec,J I en] 31))/\CAt 28 ((w.alloc (J5 (ddC d) 28)).alloc (J5 #[J I ec,J I en] 31)) w.heap.size (ddC d)/\CAt 31 ((w.alloc (J5 (ddC d) 28)).alloc (J5 #[J I ec,J I en] 31)) (w.heap.size+1) #[J I ec,J I en]):=⟨(znw w _).alloc (by simp) _,(CAt.new _ w _).alloc _,CAt.new2 _ w _ _⟩
 clear v hO U V hx
 go_enter func9,ntmps9
 refine wp_seq_k (fun K0 Y=>?_);have Z:=J6 Y;clear Y;go_wp2;refine Z.out _ _ ?_;clear Z;generalize (w.alloc (J5 (ddC d) 28)).alloc (J5 #[J I ec,J I en] 31)=w0 at *;refine wp_seq_k (fun K hK=>?_);have HK:=J6 hK;clear hK;obtain⟨G,m⟩:∃ G:World->Prop,G=fun c=>Bl w0 c:=⟨_,rfl⟩;obtain⟨G1,r⟩:∃ G:World->Prop,G=fun c=>StP L g2 x c/\Alt g2 w0 c:=⟨_,rfl⟩;have i:∀ c,G c->G c.drew:=fun c h=>by rw[m]at h ⊢;exact h.trans ((Below.refl _ _).drew.mono h.size)
 have H:∀ c,G1 c->G1 c.drew:=fun c h=>by rw[r]at h ⊢;exact⟨h.1.over (Below.refl _ _).drew,h.2.trans (Alt.of (Below.refl _ _).drew)⟩
 have j:G w0:=by rw[m];exact Below.refl _ _
 have N:∀ c,Alt g2 w0 c->(q1k (J2 (some ⟨w.heap.size,0,none⟩))).run prog c=.ok (J4 (ddC d)) c/\c.cell? ⟨bw,0,none⟩=some (J2 (some ⟨g2,0,none⟩))/\c.cell? ⟨w.heap.size+1,0,none⟩=some (J I ec)/\c.cell? ⟨w.heap.size+1,1,none⟩=some (J I en):=fun c h=>by
  have a2:=h.cat (b:=w.heap.size+1) (by omega) f.out.2.2
  exact⟨j1S (h.cat (by omega) f.out.2.1),(h.cat W (q.out.2.over f.out.1)).cell 0,a2.cell 0,a2.cell 1⟩
 have P:∀ c,G c->_:=fun c h=>N c (Alt.of (by rw[m]at h;exact h))
 have R:∀ c,G1 c->_:=fun c h=>N c (by rw[r]at h;exact h.2)
 have s:∀ c,G c->Calls prog 10 #[J2 (some ⟨g2,0,none⟩),J4 (ddC d)] c fun e w'=>e=.returned (J4 #[J I ec,J I en])/\G1 w':=fun c h=>by
  rw[m]at h;rw[r];exact (M.out c (zbt f.out.1 h)).mono fun e w' ⟨he,hs,ha⟩=>⟨he,hs,(Alt.of h).trans ha⟩
 have k:Hid (∀ c,G1 c->StP L g2 x c/\Alt g2 w0 c):=fun c h=>by rw[r]at h;exact h
 have z0:=f.out.2.1.lt;have z1:=f.out.2.2.lt;have z2:=(q.out.2.over f.out.1).lt;have a7:=fun c=>j7I c ec en;clear m r N M;generalize ddC d=cd at *
 go_upto_region 1 with fail
 go_region_held3 (fun c=>(q1k (J2 (some ⟨w.heap.size,0,none⟩))).run prog c=.ok (J4 cd) c/\c.cell? ⟨bw,0,none⟩=some (J2 (some ⟨g2,0,none⟩))/\c.cell? ⟨w.heap.size+1,0,none⟩=some (J I ec)/\c.cell? ⟨w.heap.size+1,1,none⟩=some (J I en)) (first | exact P _ j | exact P _ (i _ j) | exact R _ z | exact R _ (H _ z))
  (first | (go_at_call 10;refine (s _ (by first | exact j | exact i _ j)).mono ?_;rintro e A⟨rfl,z⟩;dsimp only))
 rename_i hHe;have T:=J6 (k.out _ z);clear hHe s P R i H a7 k j z z0 z1 z2;simp only[Exit.then];apply_assumption;go_wp2;refine HK.out _ _ ?_;clear HK;obtain⟨n,hn⟩:∃ n,n=A.heap.size:=⟨_,rfl⟩;have S1:StW B g x A:=(q.out.1.over f.out.1).keep fun b hb hl=>T.out.2.block b hl (by omega)
 have C1:CAt 23 A bw #[J2 (some ⟨g2,0,none⟩)]:=T.out.2.cat W (q.out.2.over f.out.1);have HT:Hid (T1 n g g2 bw x A):=⟨hn,X.out,⟨_,S1.p⟩,⟨_,T.out.1⟩,C1⟩
 have a8:Hid (∀ w',Below n A w'->(.returned (J3 true):Ending)=.returned (J3 true)/\StW B g x w'/\StP L g2 x w'/\CAt 23 w' bw #[J2 (some ⟨g2,0,none⟩)]/\Alt g2 w w'):=fun w' hb=>by
  have C:=j1o hn hb;exact⟨rfl,S1.over C,T.out.1.over C,C1.over C,((Alt.of f.out.1).trans T.out.2).trans (Alt.of C)⟩
 have a0:=J6 S1.p.q9X;have HN:=J6 hn;clear S1 C1 hn T q f X;refine wp_seq_k (fun K1 a1=>?_);have a3:=J6 a1;clear a1
 go_wp2_with (go_at_call 11;refine a0.out.mono ?_;rintro e t⟨l,rfl,I2,b2⟩;have s2:=z8o I2.rep;have D:=J6 (show _/\_ from⟨I2,b2⟩);clear I2 b2)
 refine a3.out _ _ ?_;clear a3 a0;have bL:=q5n t x.p l;have b3:=zbt D.out.2 bL;have a9:=D.out.2.size;have b4:=HN.out;have I3:z9V (fun b=>n<=b/\b≠t.heap.size) (j4b t x.p l) x.p l:=(D.out.1.mono (P':=fun b=>n<=b/\b≠t.heap.size) fun b hl hb=>⟨by omega,by omega⟩).over bL
 have S:Hid (PS n t.heap.size A x.p l (j4b t x.p l)/\PIn (fun b=>n<=b/\b≠t.heap.size) (j4b t x.p l) x.p l):=⟨⟨b3.mono (by omega),j5i t x.p l,I3.wr,by omega⟩,I3.rep⟩
 clear bL b3 a9 I3 D s2 b4;generalize j4b t x.p l=w3 at *;generalize b5:t.heap.size=gp at *;clear b5;refine wp_seq_k (fun K2 a4=>?_);have b6:Hid (∀ a w',Code.wp prog j8t (bodyPost prog f9 (fun e w'=>e=.returned (J3 true)/\StW B g x w'/\StP L g2 x w'/\CAt 23 w' bw #[J2 (some ⟨g2,0,none⟩)]/\Alt g2 w w')) a w'->K2 a w'):=a4;clear a4;obtain⟨P0,S0⟩:=HT.out.o;have a5:=J6 S0;clear S0;obtain⟨G,m⟩:∃ G:World->Prop,G=fun c=>Bl w3 c:=⟨_,rfl⟩
 have E:∀ c wz,G c->Bl c wz->G wz:=fun c wz h hb=>by
  rw[m]at h ⊢;exact zbt h hb
 have i:∀ c,G c->G c.drew:=fun c h=>E _ _ h (Below.refl _ _).drew;have j:G w3:=by rw[m];exact Below.refl _ _
 have F:∀ c,G c->Bl A c:=fun c h=>by
  rw[m]at h;exact (j1o HN.out S.out.1.bel).trans (h.mono (j1o HN.out S.out.1.bel).size)
 have zb:=S.out.1.cat.lt;have zc:=(HT.out.cp.over (F _ j)).lt
 have v:∀ c,G c->(z7u (J2 (some ⟨gp,0,none⟩))).run prog c=.ok (J4 (prC x.p l)) c/\c.cell? ⟨bw,0,none⟩=some (J2 (some ⟨g2,0,none⟩)):=fun c h=>by
  have h':=h;rw[m]at h';exact⟨z0j (S.out.1.cat.over h') (z0b _ _),(HT.out.cp.over (F _ h)).cell 0⟩
 have s:∀ c,G c->Calls prog 11 #[J2 (some ⟨g2,0,none⟩)] c fun e w'=>∃ v',e=.returned (J4 (prC x.p v'))/\(∃ Q,PIn Q w' x.p v')/\G w':=fun c h =>
  (a5.out.over (F _ h)).q9X.mono fun e w' ⟨v',he,hi,hb⟩=>⟨v',he,⟨_,hi.rep⟩,E _ _ h hb⟩
 have a6:∀ u c,(∃ Q,PIn Q c x.p u)->G c->Calls prog 12 #[J4 (prC x.p l),J4 (prC x.p u)] c fun e w'=>e=.returned (J3 true)/\G w':=fun u c ⟨Q,hq⟩ h=>by
  have h':=h;rw[m]at h';exact (q4T x.p l u _ _ c (S.out.2.over h') hq).mono fun e w' ⟨he,hb⟩=>⟨he,E _ _ h hb⟩
 have k:Hid (∀ c,G c->PS n gp A x.p l c):=fun c h=>by
  rw[m]at h;exact S.out.1.over h (Nat.le_of_eq HN.out)
 clear m E S F a5
 go_upto_region 4 with fail
 go_region_held3 (fun c=>(z7u (J2 (some ⟨gp,0,none⟩))).run prog c=.ok (J4 (prC x.p l)) c/\c.cell? ⟨bw,0,none⟩=some (J2 (some ⟨g2,0,none⟩))) (first | exact v _ j | exact v _ (i _ j))
  (first
   | (go_at_call 11;refine (s _ (by first | exact j | exact i _ j)).mono ?_;rintro e wz⟨vz,rfl,hq,j⟩;have HQ:=J6 hq;clear hq;dsimp only)
   | (go_at_call 12;refine (a6 _ _ HQ.out (by first | exact j | exact i _ j)).mono ?_;rintro e wz⟨rfl,j⟩;dsimp only))
 rename_i hHe;have HR:=J6 (k.out _ j);clear hHe s a6 v i k HQ j zb zc;simp only[Exit.then];apply_assumption;go_wp2;exact b6.out _ _ (j3l _ n g g2 bw gp x l A _ (fun w' hb=>⟨rfl,(a8.out w' hb).2⟩) HT HR)
end Wd
namespace Wd
open Go.RowKit Pv Kc
theorem z9X.j7f{w w':World}{A:Option Addr}{b off bw:Nat}{l:List Dd}(h:z9X w A b off l)(d:Alt bw w w')(hb:0<l.length->b≠bw):z9X w' A b off l:=by
 refine⟨h.adr,h.len,fun i x c j v e=>?_⟩;have h0:0<l.length:=by have:=(List.getElem?_eq_some_iff.1 c).1;omega
 rw[<- h.cell i x c j v e];exact World.cell?_of_block (w:=w) (a:=⟨b,off+i * 7+j,none⟩) (d.block b (h.lt h0) (hb h0))
attribute [local go_sem ↓] z6Z
theorem j8T(A:Option Addr)(C b off:Nat)(cp:Array Value)(l:List Dd)(w:World)(o:Nat->Nat->Nat->World->Prop)(t:z9X w A b off l)
  (T:∀ B g k U,o B g k U->z9X U A b off l)
  (h0:∀ g w1 p,Bl w w1->StW w1.heap.size g z8k p->Bl w p->o w1.heap.size g 0 p)
  (V:∀ B g k d wr c j,k<120->o B g k wr->w.heap.size<=B->l[k]?=some d->StW B g (stW l k) wr->StW B g (stW l (k+1)) j->Alt g wr c->Bl c j ->
   Calls prog 9 (#[J2 (some ⟨g,0,none⟩),J4 (ddC d),J4 #[.int .i64 (doW (stW l k) d).2.1,.int .i64 (doW (stW l k) d).2.2]] ++ cp) j fun e w'=>e=.returned (J3 true)/\StW B g (stW l (k+1)) w'/\o B g (k+1) w') :
  Calls prog 8 #[J1 A l.length C,.func (.func 9) #[] cp] w fun e w'=>∃ B g k,e=.returned (.tuple #[J2 (some ⟨g,0,none⟩),J3 true])/\o B g k w':=by
 have W:=J6 (z8O w);have D:=J6 (fun (h:0<l.length)=>t.lt h);have HD:=J6 T;have X:=J6 h0;have E:=J6 V;clear t T h0 V
 go_enter func8,ntmps8
 go_upto_region 3 with (go_at_call 22;refine W.out.mono ?_;rintro e w1⟨rfl,b1⟩;have m:=J6 b1;clear b1)
 have Y:=J6 (z4v w1)
 go_upto_region 4 with (go_at_call 7;refine Y.out.mono ?_;rintro e p⟨g,rfl,h2,b2⟩;have u:Hid (StW w1.heap.size g (stW l 0) p/\o w1.heap.size g 0 p):=⟨h2,X.out g w1 p m.out h2 (zbt m.out b2)⟩;have F:=m.out.size;have a0:=h2.le;clear h2 b2)
 go_upto_region 5 with fail
 clear Y W m X;generalize w1.heap.size=B at *
 go_loopw [7] (fun i wl=>∃ (k:Nat),k<=l.length/\k<=120/\i=.int .i64 (k:Int)/\Hid (StW B g (stW l k) wl/\o B g k wl)) (fun i _=>120 - (intOf i).toNat)
 case atStart=>exact⟨0,Nat.zero_le _,by omega,rfl,u⟩
 case round =>
  obtain⟨k,hk,a1,rfl,a⟩:=hrel;clear u
  by_cases G:k<l.length/\k<120
  ·obtain⟨h1,h2⟩:=G;have v:(k:Int)<(l.length:Int):=by omega
   have H:(k:Int)<120:=by omega
   have x:l[k]?=some l[k]:=List.getElem?_eq_getElem h1;have q:=q2B x;generalize l[k]=d at x q;have K:=J6 q;have y:=J6 (q1F B g (stW l k) d wr a.out.1);have n:=HD.out B g k wr a.out.2;have ld:=n.load x;have hA:A=some ⟨b,off,none⟩:=n.adr (by omega)
   have L:b≠g:=by have:=D.out (by omega);omega
   have Z:=J6 x;have M:=J6 n;subst hA;clear q x n
   go_upto_region 8 with (go_at_call 10;refine y.out.mono ?_;rintro e c⟨rfl,h3,a3⟩;have r:=J6 (show _/\_ from⟨h3,a3⟩);clear h3 a3)
   have N:=c.heap.size;have P:Bl c (c.alloc (J5 #[.int .i64 (doW (stW l k) d).2.1,.int .i64 (doW (stW l k) d).2.2] 31)):=znw c _;have R4:CAt 31 (c.alloc (J5 #[.int .i64 (doW (stW l k) d).2.1,.int .i64 (doW (stW l k) d).2.2] 31)) c.heap.size #[.int .i64 (doW (stW l k) d).2.1,.int .i64 (doW (stW l k) d).2.2]:=CAt.new _ c _;have Q:=r.out.1.over P;rw[<- K.out]at Q;have f:=J6 (show _/\_/\_ from⟨Q,P,R4⟩);clear Q R4 P ld;have z:=J6 (E.out B g k d wr c);generalize (doW (stW l k) d).2.1=rc at *;generalize (doW (stW l k) d).2.2=rn at *;generalize c.alloc (J5 #[.int .i64 rc,.int .i64 rn] 31)=j at *;have s:Bl j j.drew:=(Below.refl _ j).drew;have R:=zbt f.out.2.1 s;have HT:=J6 (z.out j.drew h2 a.out.2 F Z.out a.out.1 (f.out.1.over s) r.out.2 R);have a2:=((M.out.j7f r.out.2 (fun _=>L)).over R (Nat.le_refl _)).load Z.out;have r0:j.cell? ⟨c.heap.size,0,none⟩=some (.int .i64 rc):=f.out.2.2.cell 0;have r1:j.cell? ⟨c.heap.size,1,none⟩=some (.int .i64 rn):=f.out.2.2.cell 1;have a4:=f.out.2.2.lt;clear s R N z y
   go_region_with (go_at_call 9;refine HT.out.mono ?_;rintro e w5⟨rfl,S5,I5⟩;have S:=J6 (show _/\_ from⟨S5,I5⟩);clear S5 I5)
   all_goals (apply_assumption;go_wp2;exact⟨⟨k+1,by omega,by omega,by go_num,S⟩,by simp[intOf];omega⟩)
  ·by_cases h1:k<l.length
   ·obtain rfl:k=120:=by omega
    have v:((120:Nat):Int)<(l.length:Int):=by omega
    have H:(120:Int)<(l.length:Int):=by omega
    go_wp2;go_ret2
    first | exact⟨B,g,_,rfl,a.out.2⟩ | exact⟨B,g,rfl,_,a.out.2⟩
   ·have v:¬ (k:Int)<(l.length:Int):=by omega
    go_wp2;go_ret2
    first | exact⟨B,g,_,rfl,a.out.2⟩ | exact⟨B,g,rfl,_,a.out.2⟩
end Wd
namespace Wd
open Go.RowKit Pv Kc
structure z9Y(P:Nat->Prop)(w w':World):Prop where
 os:w'.os=w.os
 tape:w'.tape=w.tape
 output:w'.output=w.output
 size:w.heap.size<=w'.heap.size
 block:∀ k,k<w.heap.size->¬ P k->w'.heap[k]?=w.heap[k]?
theorem z9Y.trans{P:Nat->Prop}{w w1 a:World}(h:z9Y P w w1)(k:z9Y P w1 a):z9Y P w a:=⟨k.os.trans h.os,k.tape.trans h.tape,k.output.trans h.output,Nat.le_trans h.size k.size,fun i b h1=>(k.block i (Nat.lt_of_lt_of_le b h.size) h1).trans (h.block i b h1)⟩
theorem z9Y.of{P:Nat->Prop}{w w':World}(h:Bl w w'):z9Y P w w':=⟨h.os,h.tape,h.output,h.size,fun k a _=>h.block k a⟩
theorem z9Y.alt{P:Nat->Prop}{a:Nat}{w w':World}(h:Alt a w w')(b:P a):z9Y P w w':=⟨h.os,h.tape,h.output,h.size,fun k c h1=>h.block k c fun e=>h1 (e ▸ b)⟩
theorem z9Y.also{P:Nat->Prop}{g:Nat}{w wl w':World}(h:z9Y P w wl)(c:Alt g wl w')(b:w.heap.size<=g):z9Y P w w':=⟨c.os.trans h.os,c.tape.trans h.tape,c.output.trans h.output,Nat.le_trans h.size c.size,fun k a h1=>(c.block k (Nat.lt_of_lt_of_le a h.size) (by omega)).trans (h.block k a h1)⟩
theorem z9Y.below{P:Nat->Prop}{n:Nat}{w w':World}(h:z9Y P w w')(hp:∀ k,k<n->¬ P k)(b:n<=w.heap.size):Below n w w':=⟨h.os,h.tape,h.output,h.size,fun k a=>h.block k (by omega) (hp k a)⟩
theorem z9X.j8O{P:Nat->Prop}{w w':World}{A:Option Addr}{b off:Nat}{l:List Dd}(h:z9X w A b off l)(d:z9Y P w w')(hb:0<l.length->¬ P b):z9X w' A b off l:=by
 refine⟨h.adr,h.len,fun i x c j v e=>?_⟩;have h0:0<l.length:=by have:=(List.getElem?_eq_some_iff.1 c).1;omega
 rw[<- h.cell i x c j v e];exact World.cell?_of_block (w:=w) (a:=⟨b,off+i * 7+j,none⟩) (d.block b (h.lt h0) (hb h0))
theorem q1R(A:Option Addr)(C b off bw g2 N0:Nat)(l:List Dd)(w:World)(x:z9X w A b off l)(hb:0<l.length->b<N0)(f:StW N0 g2 z8k w)(hc:CAt 23 w bw #[J2 (some ⟨g2,0,none⟩)])(j:bw≠g2) :
  Calls prog 8 #[J1 A l.length C,.func (.func 9) #[] #[J2 (some ⟨bw,0,none⟩)]] w fun e w'=>∃ g,e=.returned (.tuple #[J2 (some ⟨g,0,none⟩),J3 true])/\Below N0 w w':=by
 have m:=f.le;have E:=f.lt;refine (j8T A C b off #[J2 (some ⟨bw,0,none⟩)] l w (fun _ g k i=>k<=l.length/\StP (fun b=>N0<=b/\b≠g2/\b≠g) g2 (stW l k) i/\CAt 23 i bw #[J2 (some ⟨g2,0,none⟩)]/\z9Y (fun b=>b=g2) w i) x ?_ ?_ ?_).mono ?_
 ·rintro B g k i⟨-,-,-,a⟩;exact x.j8O a fun h=>by have:=hb h;omega
 ·intro g w1 P b1 S b2;have:=S.le;have:=b1.size;obtain⟨v,h1,h2⟩:=f.at_;have h3:WIn (fun b=>N0<=b/\b≠g2/\b≠g) w z8k v:=h2.mono fun b m hb=>⟨hb.1,hb.2,by omega⟩
  exact⟨Nat.zero_le _,⟨⟨v,h1.over b2,h3.over b2⟩,f.inv,fun h=>h.2.1 rfl⟩,hc.over b2,z9Y.of b2⟩
 ·rintro B g k d wr Q y z⟨F,n,o,a⟩ R D G c p q;have r:k<l.length:=(List.getElem?_eq_some_iff.1 D).1;have T:=G.le;have H:=c.lt;have K:=hc.lt;have L:StP (fun b=>N0<=b/\b≠g2/\b≠g) g2 (stW l k) y:=(n.keep fun b hb m=>p.block b m (by omega)).over q
  have M:=(p.cat (b:=bw) (by omega) o).over q
  refine (q0i B g bw g2 _ (stW l (k+1)) (stW l k) d y c L (fun b h=>⟨by omega,by omega,by omega⟩) M (q2B D).symm (by omega) j).mono ?_
  rintro e w'⟨rfl,s,t,u,N⟩;exact⟨rfl,s,r,t,u,((a.also p (by omega)).trans (z9Y.of q)).trans (z9Y.alt N rfl)⟩
 ·rintro e w'⟨B,g,k,rfl,-,-,-,a⟩;exact⟨g,rfl,a.below (fun k F h=>by omega) (by omega)⟩
theorem q1g(A:Option Addr)(C b off:Nat)(l:List Dd)(w:World)(i:z9X w A b off l):Calls prog 3 #[J1 A l.length C] w fun e w'=>e=.returned (J3 true)/\Bl w w':=by
 have j:=J6 (z4v w);have c:=J6 i;clear i
 go_enter func3,ntmps3
 go_upto_region 2 with (go_at_call 7;refine j.out.mono ?_;rintro e w1⟨g2,rfl,k,b1⟩;have a:=J6 (show _/\_ from⟨k,b1⟩);clear k b1)
 change Code.wp prog _ _ _ (w1.alloc (J5 #[J2 (some ⟨g2,0,none⟩)] 23));have b2:Bl w1 (w1.alloc (J5 #[J2 (some ⟨g2,0,none⟩)] 23)):=znw w1 _;have m:CAt 23 (w1.alloc (J5 #[J2 (some ⟨g2,0,none⟩)] 23)) w1.heap.size #[J2 (some ⟨g2,0,none⟩)]:=CAt.new _ w1 _;have d:=a.out.1.lt;have f:=zbt a.out.2 b2;have o:=J6 (q1R A C b off w1.heap.size g2 w.heap.size l _ (c.out.over f (Nat.le_refl _)) c.out.lt (a.out.1.over b2) m (by omega))
 have h:=J6 f;clear b2 m f j c d;generalize w1.alloc (J5 #[J2 (some ⟨g2,0,none⟩)] 23)=w2 at *
 go_wp2_with (go_at_call 8;refine o.out.mono ?_;rintro e w6⟨g,rfl,n⟩;have p:=J6 n;clear n)
 go_ret;exact⟨rfl,h.out.trans p.out⟩
end Wd
end Go.Proofs.YtddlhnoedldidaaGreat
