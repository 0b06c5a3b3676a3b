/- Parts of the proof. -/
import Derived.Test.YtddlhnoedldidaaGreatML
import Derived.Test.YtddlhnoedldidaaGreatMK44
import Derived.Deep.RegionLaw
import Derived.Laws.OwnMore
import Derived.Laws.BytesArg
import Derived.Deep.SlicePairs
set_option maxRecDepth 100000
set_option maxHeartbeats 16000000
namespace Go.Proofs.YtddlhnoedldidaaGreat
open Go.Proofs.Tryz
open Value renaming int->J,slice->J1,pointer->J2,bool->J3,agg->J4
open IntKind renaming i64->I
open Obj renaming cells->J5
namespace Ln
open Go.RowKit
theorem z1c{w w':World}{b e z n:Nat}{v:Value}{c:List Value}(h:w.ownsRow b e z v n c)(d:∀ k,v.ownBlock=some k->w'.heap[k]?=w.heap[k]?):w'.ownsRow b e z v n c:=by
 refine⟨h.1,?_⟩
 rcases h.2 with f | ⟨g,cap,a,rfl,hb,i,rest⟩
 ·exact .inl f
 ·exact .inr ⟨g,cap,a,rfl,hb,(d g rfl).trans i,rest⟩
theorem z9k{w w':World}{b e z n:Nat}{v:Value}{a:List Value}(h:w.ownsRow b e z v n a)(hb:Bl w w'):w'.ownsRow b e z v n a:=z1c h fun k c=>hb.block k (World.ownsRow.lt h k c).2
theorem z3k{w:World}{b e z n:Nat}{v:Value}{a:List Value}(h:w.ownsRow b e z v n a):∃ A C,v=J1 A n C:=by
 rcases h.2 with⟨hv,hn⟩ | ⟨g,cap,cur,hv,_⟩
 ·subst hn;exact⟨_,_,hv⟩
 ·exact⟨_,_,hv⟩
end Ln
namespace Cd
open Go.RowKit
theorem z5A(l:List Int):∀ last:Int,-1<=last->z0l last l=true->(l.length:Int)<=5 - last∨l=[]:=by
 induction l with
 | nil=>intro _ _ _;exact .inr rfl
 | cons x t ih =>
  intro last b h;simp only[z0l,Bool.and_eq_true,decide_eq_true_eq,isV]at h;obtain⟨⟨h1,h2⟩,h3⟩:=h
  rcases ih x (by omega) h3 with a | a
  ·left;simp only[List.length_cons];omega
  ·subst a;left;simp;omega
theorem z4B(l:List (Int×Int)):∀ last:Int,-1<=last->z0e last l=true->(l.length:Int)<=5 - last∨l=[]:=by
 induction l with
 | nil=>intro _ _ _;exact .inr rfl
 | cons x t ih =>
  intro last b h;simp only[z0e,Bool.and_eq_true,decide_eq_true_eq,isV]at h;obtain⟨⟨⟨⟨h1,h2⟩,_⟩,_⟩,h3⟩:=h
  rcases ih x.1 (by omega) h3 with a | a
  ·left;simp only[List.length_cons];omega
  ·subst a;left;simp;omega
theorem q3S{k i v n:Int}{S:List (Int×Int)}{D:List Int}(h:z0s k i v n S D=0):z0e (-1) S=true/\z0l (-1) D=true/\S.length<=6/\D.length<=6:=by
 have h0:z0e (-1) S=true/\z0l (-1) D=true:=by
  rcases z7C k i v n S D with h | h | ⟨_,_,h | h | ⟨_,_,h | h | h | ⟨_,h | h | h | h⟩⟩⟩ <;> simp_all
 refine⟨h0.1,h0.2,?_,?_⟩
 ·rcases z4B S (-1) (by omega) h0.1 with h | h
  ·omega
  ·subst h;simp
 ·rcases z5A D (-1) (by omega) h0.2 with h | h
  ·omega
  ·subst h;simp
def j5y(w:World)(b:Nat)(k i v n:Int)(s d:Value):Prop:=
 w.cell? ⟨b,0,none⟩=some (J I k)/\w.cell? ⟨b,1,none⟩=some (J I i)/\w.cell? ⟨b,2,none⟩=some (J I v) /\
 w.cell? ⟨b,3,none⟩=some (J I n)/\w.cell? ⟨b,4,none⟩=some s/\w.cell? ⟨b,5,none⟩=some d
theorem q3D(w:World)(k i v n:Int)(s d:Value):j5y (w.alloc (J5 #[J I k,J I i,J I v,J I n,s,d] 68)) w.heap.size k i v n s d:=by
 unfold j5y
 simp[World.cell?_alloc_at]
theorem j5y.later{w w':World}{B b:Nat}{k i v n:Int}{s d:Value}(h:j5y w b k i v n s d)(hb:Below B w w')(a:b<B):j5y w' b k i v n s d:=by
 obtain⟨h0,h1,h2,h3,c,e⟩:=h;exact⟨(hb.cell (p:=⟨b,0,none⟩) a).trans h0,(hb.cell (p:=⟨b,1,none⟩) a).trans h1,(hb.cell (p:=⟨b,2,none⟩) a).trans h2,(hb.cell (p:=⟨b,3,none⟩) a).trans h3,(hb.cell (p:=⟨b,4,none⟩) a).trans c,(hb.cell (p:=⟨b,5,none⟩) a).trans e⟩
theorem Row.below{W w w':World}{B:Nat}{v:Value}{a:List Int}(h:Row w B v a)(hb:Below B W w)(b:B<=W.heap.size)(c:w.grownBy w' v.ownBlock):Below B W w':=
 hb.grown c (Nat.le_trans b hb.size) (fun k d=>(World.ownsRow.lt h k d).1)
theorem q4c(k i v n:Int)(S:List (Int×Int))(D:List Int)(sa da:Option Addr)(cs cd sb so db dO:Nat)(w:World)
  (hls:S.length<=maxLen) (hld:D.length<=maxLen) (hsa:0<S.length->sa=some ⟨sb,so,none⟩) (hda:0<D.length->da=some ⟨db,dO,none⟩) (PS:z4Y w sb so S) (PD:z1d w db dO D)
  (b:z0s k i v n S D≠0) :
  Calls prog 117 #[J4 #[J I k,J I i,J I v,J I n,J1 sa S.length cs,J1 da D.length cd]] w fun e w'=>e=.returned (.tuple #[.string ⟨#[]⟩,J I (z0s k i v n S D)])/\Bl w w':=by
 have a:=z0o k i v n S D sa da cs cd sb so db dO _ hls hld hsa hda (PS.later (z0u w (J5 #[J I k,J I i,J I v,J I n,J1 sa S.length cs,J1 da D.length cd] 68))) (PD.later (z0u _ _));generalize z0s k i v n S D=G at *;have d:(G != 0)=true:=by simpa using b
 have c:=a;clear a PS PD hls hld hsa hda b
 go_enter func117,ntmps117
 go_wp2_with (go_at_call 29;refine c.mono ?_;rintro e w1⟨rfl,hb⟩)
 go_ret2;exact⟨rfl,z2x hb⟩
def z9U(p:Int×Int):List Int:=be p.1 1 ++ be p.2 7
def q3X(k i v n:Int)(a:Nat):List Int:=be k 1 ++ be i 6 ++ be v 1 ++ be n 7 ++ be a 1
def enc(k i v n:Int)(S:List (Int×Int))(D:List Int):List Int:=
 q3X k i v n S.length ++ S.flatMap z9U ++ be D.length 1 ++ D.flatMap (be · 1)
theorem q1J(p:Int×Int):(z9U p).length=8:=by simp[z9U,z1I]
theorem z4o(S:List (Int×Int)):(S.flatMap z9U).length=8 * S.length:=by
 induction S with
 | nil=>rfl
 | cons a t ih=>rw[List.flatMap_cons,List.length_append,ih,q1J,List.length_cons];omega
theorem z6u(D:List Int):(D.flatMap (be · 1)).length=D.length:=by
 induction D with
 | nil=>rfl
 | cons a t ih=>rw[List.flatMap_cons,List.length_append,ih,z1I,List.length_cons];omega
theorem z3d(k i v n:Int)(a:Nat):(q3X k i v n a).length=16:=by simp[q3X,z1I]
theorem q4M(k i v n:Int)(S:List (Int×Int))(D:List Int):(enc k i v n S D).length=17+8 * S.length+D.length:=by
 simp only[enc,List.length_append,z3d,z4o,z6u,z1I];omega
theorem q1m{α:Type}(f:α->List Int)(l:List α)(d:α)(m:Nat)(h:m<l.length):(l.take (m+1)).flatMap f=(l.take m).flatMap f ++ f (l.getD m d):=by
 rw[List.take_succ_eq_append_getElem h,List.flatMap_append,List.flatMap_singleton]
 simp[List.getD,h]
theorem take_len{α:Type}(l:List α)(m:Nat):(l.take m).length<=l.length:=by simp;omega
theorem Row.keeps{w w':World}{B:Nat}{v:Value}{a:List Int}{o:Obj}(h:Row w B v a)(b:(w.alloc o).grownBy w' v.ownBlock):w'.heap[w.heap.size]?=(w.alloc o).heap[w.heap.size]?:=
 b.block _ (by simp) (fun e=>by have:=(World.ownsRow.lt h _ e.symm).2;omega)
theorem cell_of_heap{w w':World}{b:Nat}(h:w'.heap[b]?=w.heap[b]?)(o:Nat):w'.cell? ⟨b,o,none⟩=w.cell? ⟨b,o,none⟩:=World.cell?_of_block (w:=w) (a:=⟨b,o,none⟩) h
theorem Row.conv{w:World}{B:Nat}{v:Value}{E:List Int}(h:Row w B v E):(convert 233 9 v).run prog w=.ok (.string (strOfNums E)) w:=by
 rcases h.2 with⟨rfl,h0⟩ | ⟨g,cap,cur,rfl,hb,hh,hn,hm,hs,ht⟩
 ·have:E=[]:=List.eq_nil_of_length_eq_zero h0;subst this;exact run_convert_bytes_nil (P:=prog) w 233 5 underlying233 underlying5 0 0 9 underlying9
 ·refine run_convert_bytes_arg (P:=prog) w 233 5 underlying233 underlying5 g 0 E.length cap E rfl (fun j a=>?_) 9 underlying9;have b:w.ownsRow B 5 1 (J1 (some ⟨g,0,none⟩) E.length cap) E.length (E.map (Value.int .u8)):=h;rw[Nat.zero_add,b.cellAt j (by omega)]
  simp[List.getD,a]
theorem z4Y.z4k{w w':World}{B b off:Nat}{l:List (Int×Int)}(h:z4Y w b off l)(hb:Below B w w')(a:0<l.length->b<B):z4Y w' b off l:=fun i c =>
 ⟨(hb.cell (p:=⟨b,off+i * 2,none⟩) (a (by omega))).trans (h i c).1,(hb.cell (p:=⟨b,off+i * 2+1,none⟩) (a (by omega))).trans (h i c).2⟩
theorem z1d.z4k{w w':World}{B b off:Nat}{l:List Int}(h:z1d w b off l)(hb:Below B w w')(a:0<l.length->b<B):z1d w' b off l:=fun i c =>
 (hb.cell (p:=⟨b,off+i,none⟩) (a (by omega))).trans (h i c)
theorem z4Y.lt{w:World}{b off:Nat}{l:List (Int×Int)}(h:z4Y w b off l)(a:0<l.length):b<w.heap.size:=World.block_lt_of_cell? w _ (h 0 a).1
theorem z1d.lt{w:World}{b off:Nat}{l:List Int}(h:z1d w b off l)(a:0<l.length):b<w.heap.size:=World.block_lt_of_cell? w _ (h 0 a)
theorem z4g(B:Nat)(v:Value)(c:List Int)(n g:Int)(a:Nat)(w:World)(d:g=(a:Int))(hown:Row w B v c)(f:a<=7)(b:c.length+a<=1000000)(h:B<=w.heap.size) :
  Calls prog 157 #[v,J I n,J I g] w fun e w'=>∃ v',e=.returned v'/\Row w' B v' (c ++ be n a)/\w.grownBy w' v.ownBlock/\At w v v':=by
 subst d;exact z7i B v c n a w hown f b h
theorem q9x(k i v n:Int)(S:List (Int×Int))(D:List Int)(sa da:Option Addr)(cs cd sb so db dO:Nat)(w:World)
  (hls:S.length<=maxLen) (hld:D.length<=maxLen) (hsa:0<S.length->sa=some ⟨sb,so,none⟩) (hda:0<D.length->da=some ⟨db,dO,none⟩) (PS:z4Y w sb so S) (PD:z1d w db dO D)
  (hg:z0s k i v n S D=0) :
  Calls prog 117 #[J4 #[J I k,J I i,J I v,J I n,J1 sa S.length cs,J1 da D.length cd]] w fun e w'=>e=.returned (.tuple #[.string (strOfNums (enc k i v n S D)),J I 0])/\Bl w w':=by
 obtain⟨_,_,e6,e7⟩:=q3S hg;have W:=fun h=>PS.lt h;have X:=fun h=>PD.lt h;have c:=z0o k i v n S D sa da cs cd sb so db dO _ hls hld hsa hda (PS.later (z0u w (J5 #[J I k,J I i,J I v,J I n,J1 sa S.length cs,J1 da D.length cd] 68))) (PD.later (z0u _ _));rw[hg]at c;have d5:Hid (0<S.length->sb<w.heap.size+1):=fun h=>Nat.lt_succ_of_lt (W h);have d6:Hid (0<D.length->db<w.heap.size+1):=fun h=>Nat.lt_succ_of_lt (X h);have d7:Hid (0<S.length->sa=some ⟨sb,so,none⟩):=hsa;have d8:Hid (0<D.length->da=some ⟨db,dO,none⟩):=hda;clear hls hld hsa hda hg W X
 go_enter func117,ntmps117
 go_wp2_with fail
 refine c.mono ?_;rintro e w1⟨rfl,r⟩;clear c;have b:j5y w1 w.heap.size k i v n (J1 sa S.length cs) (J1 da D.length cd):=(q3D _ _ _ _ _ _ _).later r (by simp)
 have F:Hid (Bl w w1):=z2x r;have d9:=PS.later F.out;have e0:=PD.later F.out;have a:w.heap.size+1<=w1.heap.size:=(by have:=r.size;simpa using this)
 have G:Row w1 (w.heap.size+1) (J1 none 0 0) []:=World.ownsRow_nil _ _ _ _;clear r PS PD;obtain⟨c0,c1,c2,c3,d,f⟩:=id b
 go_wp2_with fail
 refine (z4g (w.heap.size+1) _ [] _ 1 1 _ rfl G (by omega) (by simp) a).mono ?_
 rintro e w2⟨v2,rfl,s,Y,_⟩;have t:Hid (Below (w.heap.size+1) w1 w2):=G.below (Below.refl _ _) a Y;clear c0 c1 c2 c3 d f Y G;have Z:=b.later t.out (Nat.lt_succ_self _);obtain⟨c0,c1,c2,c3,d,f⟩:=id Z;have a0:w.heap.size+1<=w2.heap.size:=Nat.le_trans a t.out.size;rw[List.nil_append]at s
 go_wp2_with fail
 refine (z4g (w.heap.size+1) _ _ _ 6 6 _ rfl s (by omega) (by simp[z1I]) a0).mono ?_
 rintro e w3⟨v3,rfl,H,a1,_⟩;have x:Hid (Below (w.heap.size+1) w1 w3):=s.below t.out a a1;clear c0 c1 c2 c3 d f a1 s t Z;have a2:=b.later x.out (Nat.lt_succ_self _);obtain⟨c0,c1,c2,c3,d,f⟩:=id a2;have a3:w.heap.size+1<=w3.heap.size:=Nat.le_trans a x.out.size
 go_wp2_with fail
 refine (z4g (w.heap.size+1) _ _ _ 1 1 _ rfl H (by omega) (by simp[z1I]) a3).mono ?_
 rintro e w4⟨v4,rfl,K,a4,_⟩;have A:Hid (Below (w.heap.size+1) w1 w4):=H.below x.out a a4;clear c0 c1 c2 c3 d f a4 H x a2;have a5:=b.later A.out (Nat.lt_succ_self _);obtain⟨c0,c1,c2,c3,d,f⟩:=id a5;have a6:w.heap.size+1<=w4.heap.size:=Nat.le_trans a A.out.size
 go_wp2_with fail
 refine (z4g (w.heap.size+1) _ _ _ 7 7 _ rfl K (by omega) (by simp[z1I]) a6).mono ?_
 rintro e w5⟨v5,rfl,L,a7,_⟩;have B:Hid (Below (w.heap.size+1) w1 w5):=K.below A.out a a7;clear c0 c1 c2 c3 d f a7 K A a5;have a8:=b.later B.out (Nat.lt_succ_self _);obtain⟨c0,c1,c2,c3,d,f⟩:=id a8;have a9:w.heap.size+1<=w5.heap.size:=Nat.le_trans a B.out.size
 go_wp2_with fail
 refine (z4g (w.heap.size+1) _ _ _ 1 1 _ rfl L (by omega) (by simp[z1I]) a9).mono ?_
 rintro e w6⟨v6,rfl,b4,b5,_⟩;have M:Hid (Below (w.heap.size+1) w1 w6):=L.below B.out a b5;clear c0 c1 c2 c3 d f b5 L B a8;have b6:=b.later M.out (Nat.lt_succ_self _);obtain⟨c0,c1,c2,c3,d,f⟩:=id b6;clear a0 a3 a6 a9;have b7:Hid (Row w6 (w.heap.size+1) v6 (q3X k i v n S.length)):=b4;clear b4
 go_wp2_with fail
 clear c0 c1 c2 c3 d f b6
 go_loopw [5,39] (fun u j wl=>∃ m:Nat,m<=S.length/\j=J I m/\Hid (Row wl (w.heap.size+1) u (q3X k i v n S.length ++ (S.take m).flatMap z9U))/\Hid (Below (w.heap.size+1) w1 wl)) (fun _ j _=>S.length - (intOf j).toNat)
 case atStart=>exact⟨0,Nat.zero_le _,rfl,by simpa using b7,M⟩
 case round =>
  obtain⟨m,hm,rfl,C,o⟩:=hrel;clear b7 M;have E:w.heap.size+1<=wr.heap.size:=Nat.le_trans a o.out.size;have b8:((S.take m).flatMap z9U).length<=48:=by rw[z4o];have:=take_len S m;omega
  by_cases l:m<S.length
  ·have hcell:=d9.z4k o.out d5.out m l;have g:=q1m z9U S (0,0) m l;obtain⟨y,hy⟩:∃ y,S.getD m (0,0)=y:=⟨_,rfl⟩;rw[hy]at hcell g;obtain⟨y,z⟩:=y;obtain⟨b9,c6⟩:=hcell;dsimp only at b9 c6;have e:=d7.out (by omega)
   subst e;have HT:Hid _:=g;clear g hy
   go_wp2_with fail
   have N:Row (wr.alloc (Obj.cells #[Value.int IntKind.i64 y,Value.int IntKind.i64 z] 65)) (w.heap.size+1) u5 (q3X k i v n S.length ++ (S.take m).flatMap z9U):=World.ownsRow.alloc C.out _;have c7:Hid (Below (w.heap.size+1) w1 (wr.alloc (Obj.cells #[Value.int IntKind.i64 y,Value.int IntKind.i64 z] 65))):=o.out.alloc E _;refine (z4g (w.heap.size+1) _ _ _ 1 1 _ rfl N (by omega) (by simp only[List.length_append,z3d];omega) (by simp;omega)).mono ?_
   rintro e wa⟨va,rfl,P,Q,_⟩;have hk:=C.out.keeps Q;have e1:wa.cell? ⟨wr.heap.size,1,none⟩=some (J I z):=by rw[cell_of_heap hk];simp[World.cell?_alloc_at]
   have c8:Hid (Below (w.heap.size+1) w1 wa):=N.below c7.out a Q;have e2:w.heap.size+1<=wa.heap.size:=Nat.le_trans a c8.out.size;clear hk Q N c7 b9 c6
   go_wp2_with fail
   refine (z4g (w.heap.size+1) _ _ _ 7 7 _ rfl P (by omega) (by simp only[List.length_append,z3d,z1I];omega) e2).mono ?_
   rintro e wb⟨vb,rfl,p,q,_⟩;have R:Hid (Below (w.heap.size+1) w1 wb):=P.below c8.out a q
   have T:Hid (Row wb (w.heap.size+1) vb (q3X k i v n S.length ++ (S.take (m+1)).flatMap z9U)):=by
    show Row _ _ _ _
    rw[HT.out,z9U,<- List.append_assoc,<- List.append_assoc];exact p
   clear P p q e1;go_wp2;go_roundw
   case rel=>exact⟨m+1,by omega,by go_num,T,R⟩
   case measure=>simp[intOf];omega
  ·have e3:m=S.length:=by omega
   subst e3;have U:Row wr (w.heap.size+1) u5 (q3X k i v n S.length ++ S.flatMap z9U):=by have:=C.out;rwa [List.take_length]at this
   have c9:=b.later o.out (Nat.lt_succ_self _);obtain⟨c0,c1,c2,c3,d,f⟩:=id c9;have e8:(S.flatMap z9U).length<=48:=by rw[z4o];omega
   clear b8 C c9
   go_wp2_with fail
   refine (z4g (w.heap.size+1) _ _ _ 1 1 _ rfl U (by omega) (by simp only[List.length_append,z3d];omega) E).mono ?_
   rintro e w8⟨v8,rfl,d0,d1,_⟩;have V:Hid (Below (w.heap.size+1) w1 w8):=U.below o.out a d1;clear c0 c1 c2 c3 d f d1 U l hm o;have d2:=b.later V.out (Nat.lt_succ_self _);obtain⟨c0,c1,c2,c3,d,f⟩:=id d2;have d3:Hid (Row w8 (w.heap.size+1) v8 (q3X k i v n S.length ++ S.flatMap z9U ++ be D.length 1)):=d0;clear d0
   go_wp2_with fail
   clear c0 c1 c2 c3 d f d2
   go_loopw [5,60] (fun u j wl=>∃ m:Nat,m<=D.length/\j=J I m/\Hid (Row wl (w.heap.size+1) u (q3X k i v n S.length ++ S.flatMap z9U ++ be D.length 1 ++ (D.take m).flatMap (be · 1)))/\Hid (Below (w.heap.size+1) w1 wl)) (fun _ j _=>D.length - (intOf j).toNat)
   case atStart=>exact⟨0,Nat.zero_le _,rfl,by simpa using d3,V⟩
   case round =>
    obtain⟨m,hm,rfl,C,o⟩:=hrel;clear d3 V;have E:w.heap.size+1<=wr.heap.size:=Nat.le_trans a o.out.size;have e5:((D.take m).flatMap (be · 1)).length<=6:=by rw[z6u];have:=take_len D m;omega
    by_cases l:m<D.length
    ·have hcell:=e0.z4k o.out d6.out m l;have g:=q1m (be · 1) D 0 m l;obtain⟨y,hy⟩:∃ y,D.getD m 0=y:=⟨_,rfl⟩;rw[hy]at hcell g;have e:=d8.out (by omega)
     subst e;have HT:Hid _:=g;clear g hy
     go_wp2_with fail
     refine (z4g (w.heap.size+1) _ _ _ 1 1 _ rfl C.out (by omega) (by simp only[List.length_append,z3d,z1I];omega) E).mono ?_
     rintro e wb⟨vb,rfl,p,q,_⟩;have R:Hid (Below (w.heap.size+1) w1 wb):=C.out.below o.out a q
     have T:Hid (Row wb (w.heap.size+1) vb (q3X k i v n S.length ++ S.flatMap z9U ++ be D.length 1 ++ (D.take (m+1)).flatMap (be · 1))):=by
      show Row _ _ _ _
      rw[HT.out,<- List.append_assoc];exact p
     clear p q hcell;go_wp2;go_roundw
     case rel=>exact⟨m+1,by omega,by go_num,T,R⟩
     case measure=>simp[intOf];omega
    ·have e4:m=D.length:=by omega
     subst e4;have d4:Row wr (w.heap.size+1) u5 (enc k i v n S D):=by have:=C.out;rwa [List.take_length]at this
     have HF:Hid (Bl w wr):=F.out.trans (o.out.mono (Nat.le_succ _));have e9:=d4.conv
     clear d4 C o;go_wp2;go_ret2;exact⟨rfl,HF.out⟩
end Cd
namespace Cd
open Go.ChangeShapes Go.WideShapes Go.ChangeAt Go.RowKit Go.Deep
structure q5V(w:World)(S:List (Int×Int))(D:List Int)(sa da:Option Addr)(sb so db dO:Nat):Prop where
 hls:S.length<=maxLen
 hld:D.length<=maxLen
 hsa:0<S.length->sa=some ⟨sb,so,none⟩
 hda:0<D.length->da=some ⟨db,dO,none⟩
 PS:z4Y w sb so S
 PD:z1d w db dO D
theorem q5V.later{w w':World}{S:List (Int×Int)}{D:List Int}{sa da:Option Addr}{sb so db dO:Nat}(h:q5V w S D sa da sb so db dO)(hb:Bl w w'):q5V w' S D sa da sb so db dO:=
 ⟨h.hls,h.hld,h.hsa,h.hda,h.PS.later hb,h.PD.later hb⟩
section
variable {H:Type} {enc:TypeId×Value->H} {W:World}
end
end Cd
namespace Cd
open Go.RowKit
theorem j5L:(prog.info? 65).map (fun i=>(i.zero,i.size,i.bytes))=some (some (J4 #[J I 0,J I 0]),2,16):=by kernel_rfl
theorem info3:(prog.info? 3).map (fun i=>(i.zero,i.size,i.bytes))=some (some (J I 0),1,8):=by kernel_rfl
theorem so{w:World}{b i j:Nat}{v u:Value}(a:i≠j)(h:w.cell? ⟨b,j,none⟩=some u):(w.setCell ⟨b,i,none⟩ v).cell? ⟨b,j,none⟩=some u:=
 (World.cell?_setCell_other _ _ _ _ (fun e=>a (by cases e;rfl))).trans h
theorem ss{w:World}{b i:Nat}{v u:Value}(h:w.cell? ⟨b,i,none⟩=some u):(w.setCell ⟨b,i,none⟩ v).cell? ⟨b,i,none⟩=some v:=World.cell?_setCell_same _ _ _ h
def z3v(w:World)(b:Nat)(v0 v1 v2 v3 a c:Value):World:=
 (((((w.setCell ⟨b,0,none⟩ v0).setCell ⟨b,1,none⟩ v1).setCell ⟨b,2,none⟩ v2).setCell ⟨b,3,none⟩ v3).setCell ⟨b,4,none⟩ a).setCell ⟨b,5,none⟩ c
theorem z4D{w:World}{b:Nat}(v0 v1 v2 v3 a c:Value)(h:∀ o,o<6->∃ u,w.cell? ⟨b,o,none⟩=some u) :
  (z3v w b v0 v1 v2 v3 a c).cell? ⟨b,0,none⟩=some v0/\(z3v w b v0 v1 v2 v3 a c).cell? ⟨b,1,none⟩=some v1/\(z3v w b v0 v1 v2 v3 a c).cell? ⟨b,2,none⟩=some v2 /\
  (z3v w b v0 v1 v2 v3 a c).cell? ⟨b,3,none⟩=some v3/\(z3v w b v0 v1 v2 v3 a c).cell? ⟨b,4,none⟩=some a/\(z3v w b v0 v1 v2 v3 a c).cell? ⟨b,5,none⟩=some c:=by
 obtain⟨f,h0⟩:=h 0 (by omega)
 obtain⟨u1,h1⟩:=h 1 (by omega)
 obtain⟨u2,h2⟩:=h 2 (by omega)
 obtain⟨g,h3⟩:=h 3 (by omega)
 obtain⟨i,d⟩:=h 4 (by omega)
 obtain⟨j,e⟩:=h 5 (by omega)
 exact⟨so (by decide) (so (by decide) (so (by decide) (so (by decide) (so (by decide) (ss (h0)))))),so (by decide) (so (by decide) (so (by decide) (so (by decide) (ss (so (by decide) (h1)))))),so (by decide) (so (by decide) (so (by decide) (ss (so (by decide) (so (by decide) (h2)))))),so (by decide) (so (by decide) (ss (so (by decide) (so (by decide) (so (by decide) (h3)))))),so (by decide) (ss (so (by decide) (so (by decide) (so (by decide) (so (by decide) (d)))))),ss (so (by decide) (so (by decide) (so (by decide) (so (by decide) (so (by decide) (e))))))⟩
theorem z3z{B:Nat}{w0 w:World}{b:Nat}(v0 v1 v2 v3 c d:Value)(h:Below B w0 w)(a:B<=b):Below B w0 (z3v w b v0 v1 v2 v3 c d):=
 (((((h.setCell a _).setCell a _).setCell a _).setCell a _).setCell a _).setCell a _
theorem z5S{w:World}{b:Nat}(v0 v1 v2 v3 a d:Value){c:Nat}(hc:c≠b):(z3v w b v0 v1 v2 v3 a d).heap[c]?=w.heap[c]?:=by
 unfold z3v;rw[Below.heap_setCell _ _ _ _ hc,Below.heap_setCell _ _ _ _ hc,Below.heap_setCell _ _ _ _ hc,Below.heap_setCell _ _ _ _ hc,Below.heap_setCell _ _ _ _ hc,Below.heap_setCell _ _ _ _ hc]
end Cd
namespace Pv
open Go.RowKit
section
variable {P:Nat->Prop} {w w':World} {v:Value} {sz bts:Nat} {cs:List Value}
theorem Rep.line{x:Ln.Line}{v1 v2:Value}(h1:Rep P w v1 1 16 (txC x.S))(h2:Rep P w v2 1 8 (inC x.D)):∃ a f c g sb so db dO,v1=J1 a x.S.length f/\v2=J1 c x.D.length g/\Ln.LAt w x a c f g sb so db dO/\(0<x.S.length->P sb)/\(0<x.D.length->P db):=by
 obtain⟨a,n1,f,l,m,n,o,p⟩:=h1;obtain⟨c,q,g,b1,b2,b3,r,s⟩:=h2;rw[z0V]at m;rw[z0h]at b2;have t:n1=x.S.length:=by omega
 have u:q=x.D.length:=by omega
 subst t u
 have v:∃ sb so,(0<x.S.length->a=some ⟨sb,so,none⟩/\P sb)/\Ln.z3m w sb so x.S:=by
  rcases Nat.eq_zero_or_pos x.S.length with h0 | h0
  ·exact⟨0,0,fun h=>by omega,fun i d=>by omega⟩
  ·obtain⟨b,off,e,hp,_,hc⟩:=p h0;exact⟨b,off,fun _=>⟨e,hp⟩,fun i d=>hc i _ (z7z _ i d)⟩
 have hd:∃ db dO,(0<x.D.length->c=some ⟨db,dO,none⟩/\P db)/\Ln.z1d w db dO x.D:=by
  rcases Nat.eq_zero_or_pos x.D.length with h0 | h0
  ·exact⟨0,0,fun h=>by omega,fun i d=>by omega⟩
  ·obtain⟨b,off,e,hp,_,hc⟩:=s h0;exact⟨b,off,fun _=>⟨e,hp⟩,fun i d=>hc i _ (z3J _ i d)⟩
 obtain⟨sb,so,j,y⟩:=v;obtain⟨db,dO,k,z⟩:=hd;exact⟨a,f,c,g,sb,so,db,dO,l,b1,⟨n,b3,fun h=>(j h).1,fun h=>(k h).1,o.1,r.1,y,z⟩,fun h=>(j h).2,fun h=>(k h).2⟩
theorem Rep.lies{S:List (Int×Int)}{D:List Int}{v1 v2:Value}(h1:Rep P w v1 2 16 (pwC S))(h2:Rep P w v2 1 8 (inC D)):∃ c f d g sb so db dO,v1=J1 c S.length f/\v2=J1 d D.length g/\Cd.q5V w S D c d sb so db dO:=by
 obtain⟨c,n1,f,j,k,v,x,l⟩:=h1;obtain⟨d,m,g,b1,b2,b3,y,n⟩:=h2;rw[z0c]at k;rw[z0h]at b2;have o:n1=S.length:=by omega
 have p:m=D.length:=by omega
 subst o p
 have q:∃ sb so,(0<S.length->c=some ⟨sb,so,none⟩)/\Cd.z4Y w sb so S:=by
  rcases Nat.eq_zero_or_pos S.length with h0 | h0
  ·exact⟨0,0,fun h=>by omega,fun i a=>by omega⟩
  ·obtain⟨b,off,e,hp,_,hc⟩:=l h0;exact⟨b,off,fun _=>e,fun i a=>⟨hc _ _ (z1U _ i a).1,hc _ _ (z1U _ i a).2⟩⟩
 have hd:∃ db dO,(0<D.length->d=some ⟨db,dO,none⟩)/\Cd.z1d w db dO D:=by
  rcases Nat.eq_zero_or_pos D.length with h0 | h0
  ·exact⟨0,0,fun h=>by omega,fun i a=>by omega⟩
  ·obtain⟨b,off,e,hp,_,hc⟩:=n h0;exact⟨b,off,fun _=>e,fun i a=>hc i _ (z3J _ i a)⟩
 obtain⟨sb,so,r,s⟩:=q;obtain⟨db,dO,t,u⟩:=hd;exact⟨c,f,d,g,sb,so,db,dO,j,b1,⟨by unfold maxLen;omega,by unfold maxLen;omega,r,t,s,u⟩⟩
end
theorem q8t(a x c y:List Value)(h:x.length=y.length):spl (a ++ (x ++ c)).toArray a.length y=(a ++ (y ++ c)).toArray:=by
 apply Array.ext_getElem?;intro i;rw[q2i _ _ _ _ (by simp;omega)]
 simp only[List.getElem?_toArray]
 by_cases h1:i<a.length
 ·rw[if_neg (by omega),List.getElem?_append_left h1,List.getElem?_append_left h1]
 ·obtain⟨j,rfl⟩:∃ j,i=a.length+j:=⟨i - a.length,by omega⟩
  have e:∀ z:List Value,(a ++ z)[a.length+j]?=z[j]?:=fun z=>by rw[List.getElem?_append_right (by omega),Nat.add_sub_cancel_left]
  rw[e,e,Nat.add_sub_cancel_left]
  by_cases h2:j<y.length
  ·rw[if_pos ⟨by omega,by omega⟩,List.getElem?_append_left h2]
  ·rw[if_neg (by omega),List.getElem?_append_right (by omega),List.getElem?_append_right (by omega),h]
theorem set_mid(a x c:List Value)(n j:Nat)(u:Value)(b:a.length=n)(d:j<x.length):((a ++ (x ++ c)).toArray).setIfInBounds (n+j) u=(a ++ (x.set j u ++ c)).toArray:=by
 subst b;rw[List.setIfInBounds_toArray,List.set_append_right _ _ (by omega),Nat.add_sub_cancel_left,List.set_append_left _ _ d]
def Join(A:Act)(R:World->Prop)(ex:Exit)(a:Act)(w:World):Prop:=ex=Exit.normal/\a=A/\R w
theorem z3M{P:Program}{c:Code}{Q:Exit->Act->World->Prop}{a:Act}{w:World}(R:World->Prop)(A:Act)(h1:Code.wp P c (Join A R) a w)(h2:∀ w',R w'->Q Exit.normal A w'):Code.wp P c Q a w:=
 Code.wp_mono (fun e b w' h=>by obtain⟨rfl,rfl,h⟩:=h;exact h2 w' h) h1
def j7D(A:Value->Act)(R:Value->World->Prop)(ex:Exit)(a:Act)(w:World):Prop:=∃ x,ex=Exit.normal/\a=A x/\R x w
theorem q3v{P:Program}{c:Code}{Q:Exit->Act->World->Prop}{a:Act}{w:World}(R:Value->World->Prop)(A:Value->Act)(h1:Code.wp P c (j7D A R) a w)(h2:∀ x w',R x w'->Q Exit.normal (A x) w'):Code.wp P c Q a w:=
 Code.wp_mono (fun e b w' h=>by obtain⟨x,rfl,rfl,h⟩:=h;exact h2 x w' h) h1
end Pv
namespace Cd
open Go.RowKit
def z5h(a:Int)(l:List Int):Int:=l.foldl (fun n c=>n * 256+c) a
theorem q0Y(m:Nat):(2:Int) ^ (8 * (m+1))=2 ^ (8 * m) * 256:=by
 rw[show 8 * (m+1)=8 * m+8 by omega,Int.pow_add];rfl
theorem j1j(m:Nat):(0:Int)<2 ^ (8 * m):=Int.pow_pos (by decide)
theorem j4I(n:Int)(m:Nat):∀ c∈be n m,0<=c/\c<256:=by
 induction m with
 | zero=>simp[be]
 | succ m ih =>
  intro c hc
  rcases List.mem_cons.1 hc with rfl | hc
  ·omega
  ·exact ih c hc
theorem j0M(k i v n:Int)(S:List (Int×Int))(D:List Int):∀ c∈enc k i v n S D,0<=c/\c<256:=by
 intro c hc;unfold enc q3X at hc;simp only[List.mem_append,List.mem_flatMap,z9U]at hc
 rcases hc with ((((((h | h) | h) | h) | h) | ⟨p,_,h | h⟩) | h) | ⟨p,_,h⟩ <;> exact j4I _ _ c h
end Cd
section
open Go.RowKit
theorem j1X(g cap:Nat)(l:List Pw)(w:World)(h:z1K w g l)(hn:l.length<=12) :
  Calls prog 175 #[J1 (some ⟨g,0,none⟩) l.length cap,J I 0,J I (l.length:Int),.func (.func 113) #[] #[]] w fun e w'=>e=.returned (.tuple #[])/\z1K w' g (z2s ltP l)/\z2M g w w':=by
 have C:=J6 h;clear h
 go_enter func175,ntmps175
 go_wp2
 go_loopw [8] (fun i wl=>∃ m:Nat,i=J I ((m:Int)+1)/\(m+1<=l.length∨m=0)/\Hid (z1K wl g (z1n ltP l m)/\z2M g w wl)) (fun i _=>l.length - (intOf i).toNat)
 case atStart=>exact⟨0,rfl,.inr rfl,C.out,z2M.refl _ _⟩
 case round =>
  obtain⟨m,rfl,U,D⟩:=hrel
  by_cases V:m+1<l.length
  ·rename World=>wo
   have M:(m:Int)+1<(l.length:Int):=by omega
   go_wp2_with fail
   go_loopw [9] (fun j wl=>∃ (p:Nat) (a:List Pw),j=J I (p:Int)/\p<=m+1/\a.length=l.length/\Hid (z7O ltP (m+1) (z1n ltP l m)=z7O ltP p a/\z1K wl g a/\z2M g w wl)) (fun j _=>(intOf j).toNat)
   case atStart=>exact⟨m+1,z1n ltP l m,by go_num,Nat.le_refl _,z1O _ _ _,rfl,D.out⟩
   case round =>
    obtain⟨p,a,rfl,hp,E,d⟩:=hrel;have W:w.heap.size<=wr.heap.size:=d.out.2.2.size;cases p with
    | zero =>
     have F:decide ((0:Int)<0)=false:=by decide
     go_upto_region 4 with fail
     go_quiet (fail);go_wp2;go_roundw
     case rel=>exact⟨m+1,by go_num,.inl (by omega),(by rw[z1n,d.out.1];exact d.out.2.1),(show z2M g w (wr.drewN nq) from d.out.2.2.drewN nq)⟩
     case measure=>simp[intOf];omega
    | succ p =>
     have o:p+1<a.length:=by omega
     obtain⟨c0,c1⟩:=d.out.2.1.cell (i:=p+1) o;obtain⟨X,Y⟩:=d.out.2.1.cell (i:=p) (by omega)
     have N:=q1I (a.getD (p+1) pz) (a.getD p pz);have G:=d.out.2.1.lt;have s:Hid (z7O ltP (m+1) (z1n ltP l m)=if ltP (a.getD (p+1) pz) (a.getD p pz)=true then z7O ltP p (swapAt a p) else a):=d.out.1;have k:Hid (ltP (a.getD (p+1) pz) (a.getD p pz)=decide (j5v (a.getD (p+1) pz) (a.getD p pz)<0)):=rfl;have c:=J6 d.out.2;clear d;generalize j5v (a.getD (p+1) pz) (a.getD p pz)=r at *;generalize P:a.getD (p+1) pz=A at *;generalize Q:a.getD p pz=B at *;have Z:=J6 P;have HB:=J6 Q;clear P Q;have a0:IntKind.i64.wrap (((p+1:Nat):Int) - 1)=(p:Int):=by rw[show ((p+1:Nat):Int) - 1=(p:Int) by omega];exact z7l (by omega) (by omega)
     generalize R:p+1=q at *;have n:=J6 R;clear R;have a1:(0:Int)<=(q:Int):=by omega
     have a2:(q:Int)<(l.length:Int):=by omega
     have a3:(0:Int)<=(p:Int):=by omega
     have a4:(p:Int)<(l.length:Int):=by have:=n.out;omega
     have F:decide (0<q)=true:=by have:=n.out;simp;omega
     go_upto_region 4 with fail
     go_region_held3 (fun z=>z.cell? ⟨g,q * 2,none⟩=some (J I A.1)/\z.cell? ⟨g,q * 2+1,none⟩=some (J I A.2)/\z.cell? ⟨g,p * 2,none⟩=some (J I B.1)/\z.cell? ⟨g,p * 2+1,none⟩=some (J I B.2)) (first | go_keep | (refine⟨?_,?_,?_,?_⟩ <;> (rw[f.cell G];simp[*])))
      (first | (go_at_call 113;refine (N _).mono ?_;rintro e w1⟨rfl,f⟩))
     rename_i hh;obtain⟨a5,a6,a7,a8⟩:=hh;have b:=c.out.1.later (w':=w1) (show Bl wr w1 from ((Below.refl _ wr).drew.trans f));have t:z2M g w w1:=c.out.2.trans (z2M.of_below (show Bl wr w1 from ((Below.refl _ wr).drew.trans f)));have u:=J6 b;have v:=J6 t;have f0:=b.free (q * 2);have f1:=b.free (q * 2+1);have f2:=b.free (p * 2);have f3:=b.free (p * 2+1);clear b t f c0 c1 X Y c N
     by_cases S:r<0
     ·have hd:decide (r<0)=true:=by simpa using S
      rw[hd];have H:=n.out;have n1:¬ p=q:=by omega
      have n2:¬ q=p:=by omega
      have n3:¬ p * 2=q * 2+1:=by omega
      have n4:¬ q * 2=p * 2+1:=by omega
      have n5:¬ p * 2+1=q * 2:=by omega
      have n6:¬ q * 2+1=p * 2:=by omega
      have n7:¬ p * 2=q * 2:=by omega
      have n8:¬ q * 2=p * 2:=by omega
      clear H
      go_upto_region 6 with fail
      go_region;have x:(a.set q B).set p A=swapAt a p:=by rw[swapAt,n.out,Z.out,HB.out]
      have K:Hid (z1K (((((w1.setCell ⟨g,q * 2,none⟩ (J I B.1)).setCell ⟨g,q * 2+1,none⟩ (J I B.2)).setCell ⟨g,p * 2,none⟩ (J I A.1)).setCell ⟨g,p * 2+1,none⟩ (J I A.2)).drew) g (swapAt a p)):=by
       rw[<- x];exact (u.out.put o B).put (by simp;omega) A
      have L:Hid (z2M g w (((((w1.setCell ⟨g,q * 2,none⟩ (J I B.1)).setCell ⟨g,q * 2+1,none⟩ (J I B.2)).setCell ⟨g,p * 2,none⟩ (J I A.1)).setCell ⟨g,p * 2+1,none⟩ (J I A.2)).drew)):=((((v.out.set _ _).set _ _).set _ _).set _ _).drew;have y:Hid (z7O ltP (m+1) (z1n ltP l m)=z7O ltP p (swapAt a p)):=by rw[s.out,k.out,hd];exact if_pos rfl
      clear x;generalize ((((w1.setCell ⟨g,q * 2,none⟩ (J I B.1)).setCell ⟨g,q * 2+1,none⟩ (J I B.2)).setCell ⟨g,p * 2,none⟩ (J I A.1)).setCell ⟨g,p * 2+1,none⟩ (J I A.2)).drew=w2 at *;go_wp2;go_roundw
      case rel=>exact⟨p,swapAt a p,rfl,by have:=n.out;omega,(by rw[z3c];exact E),y.out,K.out,L.out⟩
      case measure=>have:=n.out;simp[intOf];omega
     ·have hd:decide (r<0)=false:=by simpa using S
      rw[hd];have y:Hid (z7O ltP (m+1) (z1n ltP l m)=a):=by rw[s.out,k.out,hd];exact if_neg (by simp)
      go_wp2;go_roundw
      case rel=>exact⟨m+1,by go_num,.inl (by omega),(by rw[z1n,y.out];exact u.out),v.out⟩
      case measure=>simp[intOf];omega
  ·have T:z2s ltP l=z1n ltP l m:=by
    unfold z2s
    rcases U with h | rfl
    ·rw[show l.length - 1=m by omega]
    ·rcases (show l.length=0∨l.length=1 by omega) with h | h <;> rw[h]
   have y:=J6 T;clear T;go_wp2;go_end0;exact⟨rfl,by rw[y.out];exact D.out.1,D.out.2⟩
theorem j7F(g cap:Nat)(c:Int)(l:List Pw)(w:World)(h:z1K w g l)(f:l.length<=12) :
  Calls prog 153 #[J1 (some ⟨g,0,none⟩) l.length cap,J I 0,J I (l.length:Int),J I c,.func (.func 113) #[] #[]] w fun e w'=>e=.returned (.tuple #[])/\z1K w' g (z2s ltP l)/\z2M g w w':=by
 have i:=j1X g cap l w h f;have j:(l.length:Int)<=12:=by omega
 clear h
 go_enter func153,ntmps153
 go_wp2_with fail
 go_loopw [1,2] (fun a b wl=>a=J I 0/\b=J I (l.length:Int)/\Hid (wl=w)) (fun _ _ _=>0)
 case atStart=>exact⟨rfl,rfl,rfl⟩
 case round =>
  obtain⟨rfl,rfl,d⟩:=hrel;have e:=d.out;subst e;clear d
  go_wp2_with (go_at_call 175;refine i.mono ?_;rintro e w1⟨rfl,h1⟩;have k:=J6 h1;clear h1)
  exact bodyPost_ret (v:=.tuple #[]) (by simp[results,results153]) rfl ⟨rfl,k.out⟩
theorem q0x(n:Nat)(b:n<=12)(w:World):Calls prog 154 #[.int .u64 (n:Int)] w fun e w'=>(∃ k,e=.returned (J I k))/\w=w':=by
 have a:=Ra.j1Y n (by omega)
 go_enter func154,ntmps154
 go_wp2_with (go_at_call 184;refine (a _).mono ?_;rintro e w1⟨rfl,rfl⟩)
 go_ret;exact⟨⟨_,rfl⟩,rfl⟩
theorem j3I(g cap:Nat)(l:List Pw)(w:World)(h:z1K w g l)(b:l.length<=12) :
  Calls prog 112 #[J1 (some ⟨g,0,none⟩) l.length cap,.func (.func 113) #[] #[]] w fun e w'=>e=.returned (.tuple #[])/\z1K w' g (z2s ltP l)/\z2M g w w':=by
 have c:=fun a=>j7F g cap a l w h b;have d:=q0x l.length b w;clear h
 go_enter func112,ntmps112
 go_wp2_with (first
  | (go_at_call 154;refine d.mono ?_;rintro e w1⟨⟨k,rfl⟩,rfl⟩)
  | (go_at_call 153;refine (c _).mono ?_;rintro e i⟨rfl,h1⟩;have f:=J6 h1;clear h1))
 go_end0;exact⟨rfl,f.out⟩
theorem j1C(g cap:Nat)(l:List Pw)(w:World)(h:z1K w g l)(hn:l.length<=12) :
  Calls prog 175 #[J1 (some ⟨g,0,none⟩) l.length cap,J I 0,J I (l.length:Int),.func (.func 114) #[] #[]] w fun e w'=>e=.returned (.tuple #[])/\z1K w' g (z2s ltV l)/\z2M g w w':=by
 have C:=J6 h;clear h
 go_enter func175,ntmps175
 go_wp2
 go_loopw [8] (fun i wl=>∃ m:Nat,i=J I ((m:Int)+1)/\(m+1<=l.length∨m=0)/\Hid (z1K wl g (z1n ltV l m)/\z2M g w wl)) (fun i _=>l.length - (intOf i).toNat)
 case atStart=>exact⟨0,rfl,.inr rfl,C.out,z2M.refl _ _⟩
 case round =>
  obtain⟨m,rfl,U,D⟩:=hrel
  by_cases V:m+1<l.length
  ·rename World=>wo
   have M:(m:Int)+1<(l.length:Int):=by omega
   go_wp2_with fail
   go_loopw [9] (fun j wl=>∃ (p:Nat) (a:List Pw),j=J I (p:Int)/\p<=m+1/\a.length=l.length/\Hid (z7O ltV (m+1) (z1n ltV l m)=z7O ltV p a/\z1K wl g a/\z2M g w wl)) (fun j _=>(intOf j).toNat)
   case atStart=>exact⟨m+1,z1n ltV l m,by go_num,Nat.le_refl _,z1O _ _ _,rfl,D.out⟩
   case round =>
    obtain⟨p,a,rfl,hp,E,d⟩:=hrel;have W:w.heap.size<=wr.heap.size:=d.out.2.2.size;cases p with
    | zero =>
     have F:decide ((0:Int)<0)=false:=by decide
     go_upto_region 4 with fail
     go_quiet (fail);go_wp2;go_roundw
     case rel=>exact⟨m+1,by go_num,.inl (by omega),(by rw[z1n,d.out.1];exact d.out.2.1),(show z2M g w (wr.drewN nq) from d.out.2.2.drewN nq)⟩
     case measure=>simp[intOf];omega
    | succ p =>
     have o:p+1<a.length:=by omega
     obtain⟨c0,c1⟩:=d.out.2.1.cell (i:=p+1) o;obtain⟨X,Y⟩:=d.out.2.1.cell (i:=p) (by omega)
     have N:=z6q (a.getD (p+1) pz) (a.getD p pz);have G:=d.out.2.1.lt;have s:Hid (z7O ltV (m+1) (z1n ltV l m)=if ltV (a.getD (p+1) pz) (a.getD p pz)=true then z7O ltV p (swapAt a p) else a):=d.out.1;have k:Hid (ltV (a.getD (p+1) pz) (a.getD p pz)=decide (j1H (a.getD (p+1) pz) (a.getD p pz)<0)):=rfl;have c:=J6 d.out.2;clear d;generalize j1H (a.getD (p+1) pz) (a.getD p pz)=r at *;generalize P:a.getD (p+1) pz=A at *;generalize Q:a.getD p pz=B at *;have Z:=J6 P;have HB:=J6 Q;clear P Q;have a0:IntKind.i64.wrap (((p+1:Nat):Int) - 1)=(p:Int):=by rw[show ((p+1:Nat):Int) - 1=(p:Int) by omega];exact z7l (by omega) (by omega)
     generalize R:p+1=q at *;have n:=J6 R;clear R;have a1:(0:Int)<=(q:Int):=by omega
     have a2:(q:Int)<(l.length:Int):=by omega
     have a3:(0:Int)<=(p:Int):=by omega
     have a4:(p:Int)<(l.length:Int):=by have:=n.out;omega
     have F:decide (0<q)=true:=by have:=n.out;simp;omega
     go_upto_region 4 with fail
     go_region_held3 (fun z=>z.cell? ⟨g,q * 2,none⟩=some (J I A.1)/\z.cell? ⟨g,q * 2+1,none⟩=some (J I A.2)/\z.cell? ⟨g,p * 2,none⟩=some (J I B.1)/\z.cell? ⟨g,p * 2+1,none⟩=some (J I B.2)) (first | go_keep | (refine⟨?_,?_,?_,?_⟩ <;> (rw[f.cell G];simp[*])))
      (first | (go_at_call 114;refine (N _).mono ?_;rintro e w1⟨rfl,f⟩))
     rename_i hh;obtain⟨a5,a6,a7,a8⟩:=hh;have b:=c.out.1.later (w':=w1) (show Bl wr w1 from ((Below.refl _ wr).drew.trans f));have t:z2M g w w1:=c.out.2.trans (z2M.of_below (show Bl wr w1 from ((Below.refl _ wr).drew.trans f)));have u:=J6 b;have v:=J6 t;have f0:=b.free (q * 2);have f1:=b.free (q * 2+1);have f2:=b.free (p * 2);have f3:=b.free (p * 2+1);clear b t f c0 c1 X Y c N
     by_cases S:r<0
     ·have hd:decide (r<0)=true:=by simpa using S
      rw[hd];have H:=n.out;have n1:¬ p=q:=by omega
      have n2:¬ q=p:=by omega
      have n3:¬ p * 2=q * 2+1:=by omega
      have n4:¬ q * 2=p * 2+1:=by omega
      have n5:¬ p * 2+1=q * 2:=by omega
      have n6:¬ q * 2+1=p * 2:=by omega
      have n7:¬ p * 2=q * 2:=by omega
      have n8:¬ q * 2=p * 2:=by omega
      clear H
      go_upto_region 6 with fail
      go_region;have x:(a.set q B).set p A=swapAt a p:=by rw[swapAt,n.out,Z.out,HB.out]
      have K:Hid (z1K (((((w1.setCell ⟨g,q * 2,none⟩ (J I B.1)).setCell ⟨g,q * 2+1,none⟩ (J I B.2)).setCell ⟨g,p * 2,none⟩ (J I A.1)).setCell ⟨g,p * 2+1,none⟩ (J I A.2)).drew) g (swapAt a p)):=by
       rw[<- x];exact (u.out.put o B).put (by simp;omega) A
      have L:Hid (z2M g w (((((w1.setCell ⟨g,q * 2,none⟩ (J I B.1)).setCell ⟨g,q * 2+1,none⟩ (J I B.2)).setCell ⟨g,p * 2,none⟩ (J I A.1)).setCell ⟨g,p * 2+1,none⟩ (J I A.2)).drew)):=((((v.out.set _ _).set _ _).set _ _).set _ _).drew;have y:Hid (z7O ltV (m+1) (z1n ltV l m)=z7O ltV p (swapAt a p)):=by rw[s.out,k.out,hd];exact if_pos rfl
      clear x;generalize ((((w1.setCell ⟨g,q * 2,none⟩ (J I B.1)).setCell ⟨g,q * 2+1,none⟩ (J I B.2)).setCell ⟨g,p * 2,none⟩ (J I A.1)).setCell ⟨g,p * 2+1,none⟩ (J I A.2)).drew=w2 at *;go_wp2;go_roundw
      case rel=>exact⟨p,swapAt a p,rfl,by have:=n.out;omega,(by rw[z3c];exact E),y.out,K.out,L.out⟩
      case measure=>have:=n.out;simp[intOf];omega
     ·have hd:decide (r<0)=false:=by simpa using S
      rw[hd];have y:Hid (z7O ltV (m+1) (z1n ltV l m)=a):=by rw[s.out,k.out,hd];exact if_neg (by simp)
      go_wp2;go_roundw
      case rel=>exact⟨m+1,by go_num,.inl (by omega),(by rw[z1n,y.out];exact u.out),v.out⟩
      case measure=>simp[intOf];omega
  ·have T:z2s ltV l=z1n ltV l m:=by
    unfold z2s
    rcases U with h | rfl
    ·rw[show l.length - 1=m by omega]
    ·rcases (show l.length=0∨l.length=1 by omega) with h | h <;> rw[h]
   have y:=J6 T;clear T;go_wp2;go_end0;exact⟨rfl,by rw[y.out];exact D.out.1,D.out.2⟩
theorem j7G(g cap:Nat)(c:Int)(l:List Pw)(w:World)(h:z1K w g l)(f:l.length<=12) :
  Calls prog 153 #[J1 (some ⟨g,0,none⟩) l.length cap,J I 0,J I (l.length:Int),J I c,.func (.func 114) #[] #[]] w fun e w'=>e=.returned (.tuple #[])/\z1K w' g (z2s ltV l)/\z2M g w w':=by
 have i:=j1C g cap l w h f;have j:(l.length:Int)<=12:=by omega
 clear h
 go_enter func153,ntmps153
 go_wp2_with fail
 go_loopw [1,2] (fun a b wl=>a=J I 0/\b=J I (l.length:Int)/\Hid (wl=w)) (fun _ _ _=>0)
 case atStart=>exact⟨rfl,rfl,rfl⟩
 case round =>
  obtain⟨rfl,rfl,d⟩:=hrel;have e:=d.out;subst e;clear d
  go_wp2_with (go_at_call 175;refine i.mono ?_;rintro e w1⟨rfl,h1⟩;have k:=J6 h1;clear h1)
  exact bodyPost_ret (v:=.tuple #[]) (by simp[results,results153]) rfl ⟨rfl,k.out⟩
theorem q7N(n:Nat)(b:n<=12)(w:World):Calls prog 154 #[.int .u64 (n:Int)] w fun e w'=>(∃ k,e=.returned (J I k))/\w=w':=by
 have a:=Ra.j1Y n (by omega)
 go_enter func154,ntmps154
 go_wp2_with (go_at_call 184;refine (a _).mono ?_;rintro e w1⟨rfl,rfl⟩)
 go_ret;exact⟨⟨_,rfl⟩,rfl⟩
theorem q8u(g cap:Nat)(l:List Pw)(w:World)(h:z1K w g l)(b:l.length<=12) :
  Calls prog 112 #[J1 (some ⟨g,0,none⟩) l.length cap,.func (.func 114) #[] #[]] w fun e w'=>e=.returned (.tuple #[])/\z1K w' g (z2s ltV l)/\z2M g w w':=by
 have c:=fun a=>j7G g cap a l w h b;have d:=q7N l.length b w;clear h
 go_enter func112,ntmps112
 go_wp2_with (first
  | (go_at_call 154;refine d.mono ?_;rintro e w1⟨⟨k,rfl⟩,rfl⟩)
  | (go_at_call 153;refine (c _).mono ?_;rintro e i⟨rfl,h1⟩;have f:=J6 h1;clear h1))
 go_end0;exact⟨rfl,f.out⟩
end
end Go.Proofs.YtddlhnoedldidaaGreat
