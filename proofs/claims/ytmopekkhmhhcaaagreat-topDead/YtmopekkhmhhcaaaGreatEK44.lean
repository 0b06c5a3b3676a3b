/- Parts of the proof. -/
import Derived.Test.YtmopekkhmhhcaaaGreatEL
import Derived.Test.YtmopekkhmhhcaaaGreatEK38
import Derived.Deep.RegionLaw
import Derived.Laws.OwnMore
import Derived.Laws.BytesArg
import Derived.Deep.SlicePairs
set_option maxRecDepth 100000
set_option maxHeartbeats 16000000
namespace Go.Proofs.YtmopekkhmhhcaaaGreat
open Go.Proofs.Tryz
namespace Ln
open Go.RowKit
theorem z1i{w w':World}{b e z n:Nat}{v:Value}{xs:List Value}(h:w.ownsRow b e z v n xs)(hk:∀ k,v.ownBlock=some k->w'.heap[k]?=w.heap[k]?):w'.ownsRow b e z v n xs:=by
 refine ⟨h.1,?_⟩
 rcases h.2 with hn | ⟨g,cap,cur,rfl,hb,hg,rest⟩
 ·exact .inl hn
 ·exact .inr ⟨g,cap,cur,rfl,hb,(hk g rfl).trans hg,rest⟩
theorem z9h{w w':World}{b e z n:Nat}{v:Value}{xs:List Value}(h:w.ownsRow b e z v n xs)(hb:Below w.heap.size w w'):w'.ownsRow b e z v n xs:=z1i h fun k hk=>hb.block k (World.ownsRow.lt h k hk).2
theorem z3h{w:World}{b e z n:Nat}{v:Value}{xs:List Value}(h:w.ownsRow b e z v n xs):∃ A C,v=.slice A n C:=by
 rcases h.2 with ⟨hv,hn⟩ | ⟨g,cap,cur,hv,_⟩
 ·subst hn;exact ⟨_,_,hv⟩
 ·exact ⟨_,_,hv⟩
end Ln
namespace Cd
open Go.RowKit
theorem z5o(l:List Int):∀ last:Int,-1<=last->z0l last l=true->(l.length:Int)<=5 - last∨l=[]:=by
 induction l with
 | nil=>intro _ _ _;exact .inr rfl
 | cons x t ih =>
  intro last hl h;simp only[z0l,Bool.and_eq_true,decide_eq_true_eq,isV]at h;obtain ⟨⟨h1,h2⟩,h3⟩:=h
  rcases ih x (by omega) h3 with h4 | h4
  ·left;simp only[List.length_cons];omega
  ·subst h4;left;simp;omega
theorem z4p(l:List (Int×Int)):∀ last:Int,-1<=last->z0f last l=true->(l.length:Int)<=5 - last∨l=[]:=by
 induction l with
 | nil=>intro _ _ _;exact .inr rfl
 | cons x t ih =>
  intro last hl h;simp only[z0f,Bool.and_eq_true,decide_eq_true_eq,isV]at h;obtain ⟨⟨⟨⟨h1,h2⟩,_⟩,_⟩,h3⟩:=h
  rcases ih x.1 (by omega) h3 with h4 | h4
  ·left;simp only[List.length_cons];omega
  ·subst h4;left;simp;omega
theorem q4M{k i v n:Int}{S:List (Int×Int)}{D:List Int}(h:z0t k i v n S D=0):z0f (-1) S=true/\z0l (-1) D=true/\S.length<=6/\D.length<=6:=by
 have h0:z0f (-1) S=true/\z0l (-1) D=true:=by
  rcases z7v k i v n S D with h | h | ⟨_,_,h | h | ⟨_,_,h | h | h | ⟨_,h | h | h | h⟩⟩⟩ <;> simp_all
 refine ⟨h0.1,h0.2,?_,?_⟩
 ·rcases z4p S (-1) (by omega) h0.1 with h | h
  ·omega
  ·subst h;simp
 ·rcases z5o D (-1) (by omega) h0.2 with h | h
  ·omega
  ·subst h;simp
def j5O(w:World)(b:Nat)(k i v n:Int)(s d:Value):Prop:=
 w.cell? ⟨b,0,none⟩=some (.int .i64 k)/\w.cell? ⟨b,1,none⟩=some (.int .i64 i)/\w.cell? ⟨b,2,none⟩=some (.int .i64 v) /\
 w.cell? ⟨b,3,none⟩=some (.int .i64 n)/\w.cell? ⟨b,4,none⟩=some s/\w.cell? ⟨b,5,none⟩=some d
theorem q3I(w:World)(k i v n:Int)(s d:Value):j5O (w.alloc (.cells #[.int .i64 k,.int .i64 i,.int .i64 v,.int .i64 n,s,d] 70)) w.heap.size k i v n s d:=by
 unfold j5O
 simp[World.cell?_alloc_at]
theorem j5O.later{w w':World}{B b:Nat}{k i v n:Int}{s d:Value}(h:j5O w b k i v n s d)(hb:Below B w w')(hB:b<B):j5O w' b k i v n s d:=by
 obtain ⟨h0,h1,h2,h3,h4,h5⟩:=h;exact ⟨(hb.cell (p:=⟨b,0,none⟩) hB).trans h0,(hb.cell (p:=⟨b,1,none⟩) hB).trans h1,(hb.cell (p:=⟨b,2,none⟩) hB).trans h2,(hb.cell (p:=⟨b,3,none⟩) hB).trans h3,(hb.cell (p:=⟨b,4,none⟩) hB).trans h4,(hb.cell (p:=⟨b,5,none⟩) hB).trans h5⟩
theorem Row.below{W w w':World}{B:Nat}{v:Value}{xs:List Int}(h:Row w B v xs)(hb:Below B W w)(hB:B<=W.heap.size)(hg:w.grownBy w' v.ownBlock):Below B W w':=
 hb.grown hg (Nat.le_trans hB hb.size) (fun k hk=>(World.ownsRow.lt h k hk).1)
theorem q5P(k i v n:Int)(S:List (Int×Int))(D:List Int)(sa da:Option Addr)(cs cd sb so db dO:Nat)(w:World)
  (hls:S.length<=maxLen) (hld:D.length<=maxLen) (hsa:0<S.length->sa=some ⟨sb,so,none⟩) (hda:0<D.length->da=some ⟨db,dO,none⟩) (PS:z4R w sb so S) (PD:z0Y w db dO D)
  (hg:z0t k i v n S D≠0) :
  Calls prog 122 #[.agg #[.int .i64 k,.int .i64 i,.int .i64 v,.int .i64 n,.slice sa S.length cs,.slice da D.length cd]] w fun e w'=>e=.returned (.tuple #[.string ⟨#[]⟩,.int .i64 (z0t k i v n S D)])/\Below w.heap.size w w':=by
 have hgood:=z0o k i v n S D sa da cs cd sb so db dO _ hls hld hsa hda (PS.later (z0u w (.cells #[.int .i64 k,.int .i64 i,.int .i64 v,.int .i64 n,.slice sa S.length cs,.slice da D.length cd] 70))) (PD.later (z0u _ _));generalize z0t k i v n S D=G at *;have hG:(G != 0)=true:=by simpa using hg
 have HG:=hgood;clear hgood PS PD hls hld hsa hda hg
 go_enter func122,ntmps122
 go_wp2_with (go_at_call 34;refine HG.mono ?_;rintro e w1 ⟨rfl,hb⟩)
 go_ret2;exact ⟨rfl,z2w hb⟩
def z9W(p:Int×Int):List Int:=be p.1 1 ++ be p.2 7
def q4q(k i v n:Int)(ls:Nat):List Int:=be k 1 ++ be i 6 ++ be v 1 ++ be n 7 ++ be ls 1
def enc(k i v n:Int)(S:List (Int×Int))(D:List Int):List Int:=
 q4q k i v n S.length ++ S.flatMap z9W ++ be D.length 1 ++ D.flatMap (be · 1)
theorem q2s(p:Int×Int):(z9W p).length=8:=by simp[z9W,z1E]
theorem z4h(S:List (Int×Int)):(S.flatMap z9W).length=8 * S.length:=by
 induction S with
 | nil=>rfl
 | cons a t ih=>rw[List.flatMap_cons,List.length_append,ih,q2s,List.length_cons];omega
theorem z6y(D:List Int):(D.flatMap (be · 1)).length=D.length:=by
 induction D with
 | nil=>rfl
 | cons a t ih=>rw[List.flatMap_cons,List.length_append,ih,z1E,List.length_cons];omega
theorem z2Q(k i v n:Int)(ls:Nat):(q4q k i v n ls).length=16:=by simp[q4q,z1E]
theorem q4w(k i v n:Int)(S:List (Int×Int))(D:List Int):(enc k i v n S D).length=17+8 * S.length+D.length:=by
 simp only[enc,List.length_append,z2Q,z4h,z6y,z1E];omega
theorem q1c{α:Type}(f:α->List Int)(l:List α)(d:α)(m:Nat)(h:m<l.length):(l.take (m+1)).flatMap f=(l.take m).flatMap f ++ f (l.getD m d):=by
 rw[List.take_succ_eq_append_getElem h,List.flatMap_append,List.flatMap_singleton]
 simp[List.getD,h]
theorem take_len{α:Type}(l:List α)(m:Nat):(l.take m).length<=l.length:=by simp;omega
theorem Row.keeps{w w':World}{B:Nat}{v:Value}{xs:List Int}{o:Obj}(h:Row w B v xs)(hg:(w.alloc o).grownBy w' v.ownBlock):w'.heap[w.heap.size]?=(w.alloc o).heap[w.heap.size]?:=
 hg.block _ (by simp) (fun e=>by have:=(World.ownsRow.lt h _ e.symm).2;omega)
theorem cell_of_heap{w w':World}{b:Nat}(h:w'.heap[b]?=w.heap[b]?)(o:Nat):w'.cell? ⟨b,o,none⟩=w.cell? ⟨b,o,none⟩:=World.cell?_of_block (w:=w) (a:=⟨b,o,none⟩) h
theorem Row.conv{w:World}{B:Nat}{v:Value}{E:List Int}(h:Row w B v E):(convert 232 9 v).run prog w=.ok (.string (strOfNums E)) w:=by
 rcases h.2 with ⟨rfl,h0⟩ | ⟨g,cap,cur,rfl,hb,hh,hn,hm,hs,ht⟩
 ·have:E=[]:=List.eq_nil_of_length_eq_zero h0;subst this;exact run_convert_bytes_nil (P:=prog) w 232 5 underlying232 underlying5 0 0 9 underlying9
 ·refine run_convert_bytes_arg (P:=prog) w 232 5 underlying232 underlying5 g 0 E.length cap E rfl (fun j hj=>?_) 9 underlying9;have h':w.ownsRow B 5 1 (.slice (some ⟨g,0,none⟩) E.length cap) E.length (E.map (Value.int .u8)):=h;rw[Nat.zero_add,h'.cellAt j (by omega)]
  simp[List.getD,hj]
theorem z4R.z3Z{w w':World}{B b off:Nat}{l:List (Int×Int)}(h:z4R w b off l)(hb:Below B w w')(hB:0<l.length->b<B):z4R w' b off l:=fun i hi =>
 ⟨(hb.cell (p:=⟨b,off+i * 2,none⟩) (hB (by omega))).trans (h i hi).1,(hb.cell (p:=⟨b,off+i * 2+1,none⟩) (hB (by omega))).trans (h i hi).2⟩
theorem z0Y.z3Z{w w':World}{B b off:Nat}{l:List Int}(h:z0Y w b off l)(hb:Below B w w')(hB:0<l.length->b<B):z0Y w' b off l:=fun i hi =>
 (hb.cell (p:=⟨b,off+i,none⟩) (hB (by omega))).trans (h i hi)
theorem z4R.lt{w:World}{b off:Nat}{l:List (Int×Int)}(h:z4R w b off l)(hl:0<l.length):b<w.heap.size:=World.block_lt_of_cell? w _ (h 0 hl).1
theorem z0Y.lt{w:World}{b off:Nat}{l:List Int}(h:z0Y w b off l)(hl:0<l.length):b<w.heap.size:=World.block_lt_of_cell? w _ (h 0 hl)
theorem z4o(B:Nat)(v:Value)(xs:List Int)(n wi:Int)(wd:Nat)(w:World)(hwi:wi=(wd:Int))(hown:Row w B v xs)(hwd:wd<=7)(hlen:xs.length+wd<=1000000)(hB:B<=w.heap.size) :
  Calls prog 162 #[v,.int .i64 n,.int .i64 wi] w fun e w'=>∃ v',e=.returned v'/\Row w' B v' (xs ++ be n wd)/\w.grownBy w' v.ownBlock/\At w v v':=by
 subst hwi;exact z7r B v xs n wd w hown hwd hlen hB
theorem q6M(k i v n:Int)(S:List (Int×Int))(D:List Int)(sa da:Option Addr)(cs cd sb so db dO:Nat)(w:World)
  (hls:S.length<=maxLen) (hld:D.length<=maxLen) (hsa:0<S.length->sa=some ⟨sb,so,none⟩) (hda:0<D.length->da=some ⟨db,dO,none⟩) (PS:z4R w sb so S) (PD:z0Y w db dO D)
  (hg:z0t k i v n S D=0) :
  Calls prog 122 #[.agg #[.int .i64 k,.int .i64 i,.int .i64 v,.int .i64 n,.slice sa S.length cs,.slice da D.length cd]] w fun e w'=>e=.returned (.tuple #[.string (strOfNums (enc k i v n S D)),.int .i64 0])/\Below w.heap.size w w':=by
 obtain ⟨_,_,hS6,hD6⟩:=q4M hg;have hsb:=fun h=>PS.lt h;have hdb:=fun h=>PD.lt h;have hgood:=z0o k i v n S D sa da cs cd sb so db dO _ hls hld hsa hda (PS.later (z0u w (.cells #[.int .i64 k,.int .i64 i,.int .i64 v,.int .i64 n,.slice sa S.length cs,.slice da D.length cd] 70))) (PD.later (z0u _ _));rw[hg]at hgood;have HSB:Hid (0<S.length->sb<w.heap.size+1):=fun h=>Nat.lt_succ_of_lt (hsb h);have HDB:Hid (0<D.length->db<w.heap.size+1):=fun h=>Nat.lt_succ_of_lt (hdb h);have HSA:Hid (0<S.length->sa=some ⟨sb,so,none⟩):=hsa;have HDA:Hid (0<D.length->da=some ⟨db,dO,none⟩):=hda;clear hls hld hsa hda hg hsb hdb
 go_enter func122,ntmps122
 go_wp2_with fail
 refine hgood.mono ?_;rintro e w1 ⟨rfl,hb1⟩;clear hgood;have PK1:j5O w1 w.heap.size k i v n (.slice sa S.length cs) (.slice da D.length cd):=(q3I _ _ _ _ _ _ _).later hb1 (by simp)
 have HB1:Hid (Below w.heap.size w w1):=z2w hb1;have PS1:=PS.later HB1.out;have PD1:=PD.later HB1.out;have hz1:w.heap.size+1<=w1.heap.size:=(by have:=hb1.size;simpa using this)
 have hr1:Row w1 (w.heap.size+1) (.slice none 0 0) []:=World.ownsRow_nil _ _ _ _;clear hb1 PS PD;obtain ⟨c0,c1,c2,c3,c4,c5⟩:=id PK1
 go_wp2_with fail
 refine (z4o (w.heap.size+1) _ [] _ 1 1 _ rfl hr1 (by omega) (by simp) hz1).mono ?_
 rintro e w2 ⟨v2,rfl,hr2,hg2,_⟩;have HB2:Hid (Below (w.heap.size+1) w1 w2):=hr1.below (Below.refl _ _) hz1 hg2;clear c0 c1 c2 c3 c4 c5 hg2 hr1;have PK2:=PK1.later HB2.out (Nat.lt_succ_self _);obtain ⟨c0,c1,c2,c3,c4,c5⟩:=id PK2;have hz2:w.heap.size+1<=w2.heap.size:=Nat.le_trans hz1 HB2.out.size;rw[List.nil_append]at hr2
 go_wp2_with fail
 refine (z4o (w.heap.size+1) _ _ _ 6 6 _ rfl hr2 (by omega) (by simp[z1E]) hz2).mono ?_
 rintro e w3 ⟨v3,rfl,hr3,hg3,_⟩;have HB3:Hid (Below (w.heap.size+1) w1 w3):=hr2.below HB2.out hz1 hg3;clear c0 c1 c2 c3 c4 c5 hg3 hr2 HB2 PK2;have PK3:=PK1.later HB3.out (Nat.lt_succ_self _);obtain ⟨c0,c1,c2,c3,c4,c5⟩:=id PK3;have hz3:w.heap.size+1<=w3.heap.size:=Nat.le_trans hz1 HB3.out.size
 go_wp2_with fail
 refine (z4o (w.heap.size+1) _ _ _ 1 1 _ rfl hr3 (by omega) (by simp[z1E]) hz3).mono ?_
 rintro e w4 ⟨v4,rfl,hr4,hg4,_⟩;have HB4:Hid (Below (w.heap.size+1) w1 w4):=hr3.below HB3.out hz1 hg4;clear c0 c1 c2 c3 c4 c5 hg4 hr3 HB3 PK3;have PK4:=PK1.later HB4.out (Nat.lt_succ_self _);obtain ⟨c0,c1,c2,c3,c4,c5⟩:=id PK4;have hz4:w.heap.size+1<=w4.heap.size:=Nat.le_trans hz1 HB4.out.size
 go_wp2_with fail
 refine (z4o (w.heap.size+1) _ _ _ 7 7 _ rfl hr4 (by omega) (by simp[z1E]) hz4).mono ?_
 rintro e w5 ⟨v5,rfl,hr5,hg5,_⟩;have HB5:Hid (Below (w.heap.size+1) w1 w5):=hr4.below HB4.out hz1 hg5;clear c0 c1 c2 c3 c4 c5 hg5 hr4 HB4 PK4;have PK5:=PK1.later HB5.out (Nat.lt_succ_self _);obtain ⟨c0,c1,c2,c3,c4,c5⟩:=id PK5;have hz5:w.heap.size+1<=w5.heap.size:=Nat.le_trans hz1 HB5.out.size
 go_wp2_with fail
 refine (z4o (w.heap.size+1) _ _ _ 1 1 _ rfl hr5 (by omega) (by simp[z1E]) hz5).mono ?_
 rintro e w6 ⟨v6,rfl,hr6,hg6,_⟩;have HB6:Hid (Below (w.heap.size+1) w1 w6):=hr5.below HB5.out hz1 hg6;clear c0 c1 c2 c3 c4 c5 hg6 hr5 HB5 PK5;have PK6:=PK1.later HB6.out (Nat.lt_succ_self _);obtain ⟨c0,c1,c2,c3,c4,c5⟩:=id PK6;clear hz2 hz3 hz4 hz5;have HR6:Hid (Row w6 (w.heap.size+1) v6 (q4q k i v n S.length)):=hr6;clear hr6
 go_wp2_with fail
 clear c0 c1 c2 c3 c4 c5 PK6
 go_loopw [5,39] (fun u j wl=>∃ m:Nat,m<=S.length/\j=.int .i64 m/\Hid (Row wl (w.heap.size+1) u (q4q k i v n S.length ++ (S.take m).flatMap z9W))/\Hid (Below (w.heap.size+1) w1 wl)) (fun _ j _=>S.length - (intOf j).toNat)
 case atStart=>exact ⟨0,Nat.zero_le _,rfl,by simpa using HR6,HB6⟩
 case round =>
  obtain ⟨m,hm,rfl,HR,HB⟩:=hrel;clear HR6 HB6;have hzr:w.heap.size+1<=wr.heap.size:=Nat.le_trans hz1 HB.out.size;have hlt8:((S.take m).flatMap z9W).length<=48:=by rw[z4h];have:=take_len S m;omega
  by_cases hlt:m<S.length
  ·have hcell:=PS1.z3Z HB.out HSB.out m hlt;have htk:=q1c z9W S (0,0) m hlt;obtain ⟨y,hy⟩:∃ y,S.getD m (0,0)=y:=⟨_,rfl⟩;rw[hy]at hcell htk;obtain ⟨y,z⟩:=y;obtain ⟨hc0,hc1⟩:=hcell;dsimp only at hc0 hc1;have e:=HSA.out (by omega)
   subst e;have HT:Hid _:=htk;clear htk hy
   go_wp2_with fail
   have hrA:Row (wr.alloc (Obj.cells #[Value.int IntKind.i64 y,Value.int IntKind.i64 z] 68)) (w.heap.size+1) u5 (q4q k i v n S.length ++ (S.take m).flatMap z9W):=World.ownsRow.alloc HR.out _;have HBA:Hid (Below (w.heap.size+1) w1 (wr.alloc (Obj.cells #[Value.int IntKind.i64 y,Value.int IntKind.i64 z] 68))):=HB.out.alloc hzr _;refine (z4o (w.heap.size+1) _ _ _ 1 1 _ rfl hrA (by omega) (by simp only[List.length_append,z2Q];omega) (by simp;omega)).mono ?_
   rintro e wa ⟨va,rfl,hra,hga,_⟩;have hk:=HR.out.keeps hga;have hd1:wa.cell? ⟨wr.heap.size,1,none⟩=some (.int .i64 z):=by rw[cell_of_heap hk];simp[World.cell?_alloc_at]
   have HBa:Hid (Below (w.heap.size+1) w1 wa):=hrA.below HBA.out hz1 hga;have hza:w.heap.size+1<=wa.heap.size:=Nat.le_trans hz1 HBa.out.size;clear hk hga hrA HBA hc0 hc1
   go_wp2_with fail
   refine (z4o (w.heap.size+1) _ _ _ 7 7 _ rfl hra (by omega) (by simp only[List.length_append,z2Q,z1E];omega) hza).mono ?_
   rintro e wb ⟨vb,rfl,hrb,hgb,_⟩;have HBb:Hid (Below (w.heap.size+1) w1 wb):=hra.below HBa.out hz1 hgb
   have HRb:Hid (Row wb (w.heap.size+1) vb (q4q k i v n S.length ++ (S.take (m+1)).flatMap z9W)):=by
    show Row _ _ _ _
    rw[HT.out,z9W,← List.append_assoc,← List.append_assoc];exact hrb
   clear hra hrb hgb hd1;go_wp2;go_roundw
   case rel=>exact ⟨m+1,by omega,by go_num,HRb,HBb⟩
   case measure=>simp[intOf];omega
  ·have hmS:m=S.length:=by omega
   subst hmS;have hr7:Row wr (w.heap.size+1) u5 (q4q k i v n S.length ++ S.flatMap z9W):=by have:=HR.out;rwa [List.take_length]at this
   have PK7:=PK1.later HB.out (Nat.lt_succ_self _);obtain ⟨c0,c1,c2,c3,c4,c5⟩:=id PK7;have hl8:(S.flatMap z9W).length<=48:=by rw[z4h];omega
   clear hlt8 HR PK7
   go_wp2_with fail
   refine (z4o (w.heap.size+1) _ _ _ 1 1 _ rfl hr7 (by omega) (by simp only[List.length_append,z2Q];omega) hzr).mono ?_
   rintro e w8 ⟨v8,rfl,hr8,hg8,_⟩;have HB8:Hid (Below (w.heap.size+1) w1 w8):=hr7.below HB.out hz1 hg8;clear c0 c1 c2 c3 c4 c5 hg8 hr7 hlt hm HB;have PK8:=PK1.later HB8.out (Nat.lt_succ_self _);obtain ⟨c0,c1,c2,c3,c4,c5⟩:=id PK8;have HR8:Hid (Row w8 (w.heap.size+1) v8 (q4q k i v n S.length ++ S.flatMap z9W ++ be D.length 1)):=hr8;clear hr8
   go_wp2_with fail
   clear c0 c1 c2 c3 c4 c5 PK8
   go_loopw [5,60] (fun u j wl=>∃ m:Nat,m<=D.length/\j=.int .i64 m/\Hid (Row wl (w.heap.size+1) u (q4q k i v n S.length ++ S.flatMap z9W ++ be D.length 1 ++ (D.take m).flatMap (be · 1)))/\Hid (Below (w.heap.size+1) w1 wl)) (fun _ j _=>D.length - (intOf j).toNat)
   case atStart=>exact ⟨0,Nat.zero_le _,rfl,by simpa using HR8,HB8⟩
   case round =>
    obtain ⟨m,hm,rfl,HR,HB⟩:=hrel;clear HR8 HB8;have hzr:w.heap.size+1<=wr.heap.size:=Nat.le_trans hz1 HB.out.size;have hltm:((D.take m).flatMap (be · 1)).length<=6:=by rw[z6y];have:=take_len D m;omega
    by_cases hlt:m<D.length
    ·have hcell:=PD1.z3Z HB.out HDB.out m hlt;have htk:=q1c (be · 1) D 0 m hlt;obtain ⟨y,hy⟩:∃ y,D.getD m 0=y:=⟨_,rfl⟩;rw[hy]at hcell htk;have e:=HDA.out (by omega)
     subst e;have HT:Hid _:=htk;clear htk hy
     go_wp2_with fail
     refine (z4o (w.heap.size+1) _ _ _ 1 1 _ rfl HR.out (by omega) (by simp only[List.length_append,z2Q,z1E];omega) hzr).mono ?_
     rintro e wb ⟨vb,rfl,hrb,hgb,_⟩;have HBb:Hid (Below (w.heap.size+1) w1 wb):=HR.out.below HB.out hz1 hgb
     have HRb:Hid (Row wb (w.heap.size+1) vb (q4q k i v n S.length ++ S.flatMap z9W ++ be D.length 1 ++ (D.take (m+1)).flatMap (be · 1))):=by
      show Row _ _ _ _
      rw[HT.out,← List.append_assoc];exact hrb
     clear hrb hgb hcell;go_wp2;go_roundw
     case rel=>exact ⟨m+1,by omega,by go_num,HRb,HBb⟩
     case measure=>simp[intOf];omega
    ·have hmD:m=D.length:=by omega
     subst hmD;have hr9:Row wr (w.heap.size+1) u5 (enc k i v n S D):=by have:=HR.out;rwa [List.take_length]at this
     have HF:Hid (Below w.heap.size w wr):=HB1.out.trans (HB.out.mono (Nat.le_succ _));have hcv:=hr9.conv
     clear hr9 HR HB;go_wp2;go_ret2;exact ⟨rfl,HF.out⟩
end Cd
namespace Cd
open Go.ChangeShapes Go.WideShapes Go.ChangeAt Go.RowKit Go.Deep
structure q5Y(w:World)(S:List (Int×Int))(D:List Int)(sa da:Option Addr)(sb so db dO:Nat):Prop where
 hls:S.length<=maxLen
 hld:D.length<=maxLen
 hsa:0<S.length->sa=some ⟨sb,so,none⟩
 hda:0<D.length->da=some ⟨db,dO,none⟩
 PS:z4R w sb so S
 PD:z0Y w db dO D
theorem q5Y.later{w w':World}{S:List (Int×Int)}{D:List Int}{sa da:Option Addr}{sb so db dO:Nat}(h:q5Y w S D sa da sb so db dO)(hb:Below w.heap.size w w'):q5Y w' S D sa da sb so db dO:=
 ⟨h.hls,h.hld,h.hsa,h.hda,h.PS.later hb,h.PD.later hb⟩
section
variable {H:Type} {enc:TypeId×Value->H} {W:World}
end
end Cd
namespace Cd
open Go.RowKit
theorem j6g:(prog.info? 68).map (fun i=>(i.zero,i.size,i.bytes))=some (some (.agg #[.int .i64 0,.int .i64 0]),2,16):=by kernel_rfl
theorem info3:(prog.info? 3).map (fun i=>(i.zero,i.size,i.bytes))=some (some (.int .i64 0),1,8):=by kernel_rfl
theorem so{w:World}{b i j:Nat}{v u:Value}(hij:i≠j)(h:w.cell? ⟨b,j,none⟩=some u):(w.setCell ⟨b,i,none⟩ v).cell? ⟨b,j,none⟩=some u:=
 (World.cell?_setCell_other _ _ _ _ (fun e=>hij (by cases e;rfl))).trans h
theorem ss{w:World}{b i:Nat}{v u:Value}(h:w.cell? ⟨b,i,none⟩=some u):(w.setCell ⟨b,i,none⟩ v).cell? ⟨b,i,none⟩=some v:=World.cell?_setCell_same _ _ _ h
def z3p(w:World)(b:Nat)(v0 v1 v2 v3 v4 v5:Value):World:=
 (((((w.setCell ⟨b,0,none⟩ v0).setCell ⟨b,1,none⟩ v1).setCell ⟨b,2,none⟩ v2).setCell ⟨b,3,none⟩ v3).setCell ⟨b,4,none⟩ v4).setCell ⟨b,5,none⟩ v5
theorem z4s{w:World}{b:Nat}(v0 v1 v2 v3 v4 v5:Value)(h:∀ o,o<6->∃ u,w.cell? ⟨b,o,none⟩=some u) :
  (z3p w b v0 v1 v2 v3 v4 v5).cell? ⟨b,0,none⟩=some v0/\(z3p w b v0 v1 v2 v3 v4 v5).cell? ⟨b,1,none⟩=some v1/\(z3p w b v0 v1 v2 v3 v4 v5).cell? ⟨b,2,none⟩=some v2 /\
  (z3p w b v0 v1 v2 v3 v4 v5).cell? ⟨b,3,none⟩=some v3/\(z3p w b v0 v1 v2 v3 v4 v5).cell? ⟨b,4,none⟩=some v4/\(z3p w b v0 v1 v2 v3 v4 v5).cell? ⟨b,5,none⟩=some v5:=by
 obtain ⟨u0,h0⟩:=h 0 (by omega)
 obtain ⟨u1,h1⟩:=h 1 (by omega)
 obtain ⟨u2,h2⟩:=h 2 (by omega)
 obtain ⟨u3,h3⟩:=h 3 (by omega)
 obtain ⟨u4,h4⟩:=h 4 (by omega)
 obtain ⟨u5,h5⟩:=h 5 (by omega)
 exact ⟨so (by decide) (so (by decide) (so (by decide) (so (by decide) (so (by decide) (ss (h0)))))),so (by decide) (so (by decide) (so (by decide) (so (by decide) (ss (so (by decide) (h1)))))),so (by decide) (so (by decide) (so (by decide) (ss (so (by decide) (so (by decide) (h2)))))),so (by decide) (so (by decide) (ss (so (by decide) (so (by decide) (so (by decide) (h3)))))),so (by decide) (ss (so (by decide) (so (by decide) (so (by decide) (so (by decide) (h4)))))),ss (so (by decide) (so (by decide) (so (by decide) (so (by decide) (so (by decide) (h5))))))⟩
theorem z3B{B:Nat}{w0 w:World}{b:Nat}(v0 v1 v2 v3 v4 v5:Value)(h:Below B w0 w)(hB:B<=b):Below B w0 (z3p w b v0 v1 v2 v3 v4 v5):=
 (((((h.setCell hB _).setCell hB _).setCell hB _).setCell hB _).setCell hB _).setCell hB _
theorem z5R{w:World}{b:Nat}(v0 v1 v2 v3 v4 v5:Value){c:Nat}(hc:c≠b):(z3p w b v0 v1 v2 v3 v4 v5).heap[c]?=w.heap[c]?:=by
 unfold z3p;rw[Below.heap_setCell _ _ _ _ hc,Below.heap_setCell _ _ _ _ hc,Below.heap_setCell _ _ _ _ hc,Below.heap_setCell _ _ _ _ hc,Below.heap_setCell _ _ _ _ hc,Below.heap_setCell _ _ _ _ hc]
end Cd
namespace Pv
open Go.RowKit
section
variable {P:Nat->Prop} {w w':World} {v:Value} {sz bts:Nat} {cs:List Value}
theorem Rep.line{x:Ln.Line}{v1 v2:Value}(h1:Rep P w v1 1 16 (txC x.S))(h2:Rep P w v2 1 8 (inC x.D)):∃ A1 C1 A2 C2 sb so db dO,v1=.slice A1 x.S.length C1/\v2=.slice A2 x.D.length C2/\Ln.LAt w x A1 A2 C1 C2 sb so db dO/\(0<x.S.length->P sb)/\(0<x.D.length->P db):=by
 obtain ⟨A1,n1,C1,a1,a2,a3,a4,a5⟩:=h1;obtain ⟨A2,n2,C2,b1,b2,b3,b4,b5⟩:=h2;rw[z1L]at a2;rw[z0p]at b2;have e1:n1=x.S.length:=by omega
 have e2:n2=x.D.length:=by omega
 subst e1 e2
 have hs:∃ sb so,(0<x.S.length->A1=some ⟨sb,so,none⟩/\P sb)/\Ln.z3c w sb so x.S:=by
  rcases Nat.eq_zero_or_pos x.S.length with h0 | h0
  ·exact ⟨0,0,fun h=>by omega,fun i hi=>by omega⟩
  ·obtain ⟨b,off,e,hp,_,hc⟩:=a5 h0;exact ⟨b,off,fun _=>⟨e,hp⟩,fun i hi=>hc i _ (z7D _ i hi)⟩
 have hd:∃ db dO,(0<x.D.length->A2=some ⟨db,dO,none⟩/\P db)/\Ln.z0Y w db dO x.D:=by
  rcases Nat.eq_zero_or_pos x.D.length with h0 | h0
  ·exact ⟨0,0,fun h=>by omega,fun i hi=>by omega⟩
  ·obtain ⟨b,off,e,hp,_,hc⟩:=b5 h0;exact ⟨b,off,fun _=>⟨e,hp⟩,fun i hi=>hc i _ (z3J _ i hi)⟩
 obtain ⟨sb,so,s1,s2⟩:=hs;obtain ⟨db,dO,d1,d2⟩:=hd;exact ⟨A1,C1,A2,C2,sb,so,db,dO,a1,b1,⟨a3,b3,fun h=>(s1 h).1,fun h=>(d1 h).1,a4.1,b4.1,s2,d2⟩,fun h=>(s1 h).2,fun h=>(d1 h).2⟩
theorem Rep.lies{S:List (Int×Int)}{D:List Int}{v1 v2:Value}(h1:Rep P w v1 2 16 (pwC S))(h2:Rep P w v2 1 8 (inC D)):∃ A1 C1 A2 C2 sb so db dO,v1=.slice A1 S.length C1/\v2=.slice A2 D.length C2/\Cd.q5Y w S D A1 A2 sb so db dO:=by
 obtain ⟨A1,n1,C1,a1,a2,a3,a4,a5⟩:=h1;obtain ⟨A2,n2,C2,b1,b2,b3,b4,b5⟩:=h2;rw[z0c]at a2;rw[z0p]at b2;have e1:n1=S.length:=by omega
 have e2:n2=D.length:=by omega
 subst e1 e2
 have hs:∃ sb so,(0<S.length->A1=some ⟨sb,so,none⟩)/\Cd.z4R w sb so S:=by
  rcases Nat.eq_zero_or_pos S.length with h0 | h0
  ·exact ⟨0,0,fun h=>by omega,fun i hi=>by omega⟩
  ·obtain ⟨b,off,e,hp,_,hc⟩:=a5 h0;exact ⟨b,off,fun _=>e,fun i hi=>⟨hc _ _ (z1P _ i hi).1,hc _ _ (z1P _ i hi).2⟩⟩
 have hd:∃ db dO,(0<D.length->A2=some ⟨db,dO,none⟩)/\Cd.z0Y w db dO D:=by
  rcases Nat.eq_zero_or_pos D.length with h0 | h0
  ·exact ⟨0,0,fun h=>by omega,fun i hi=>by omega⟩
  ·obtain ⟨b,off,e,hp,_,hc⟩:=b5 h0;exact ⟨b,off,fun _=>e,fun i hi=>hc i _ (z3J _ i hi)⟩
 obtain ⟨sb,so,s1,s2⟩:=hs;obtain ⟨db,dO,d1,d2⟩:=hd;exact ⟨A1,C1,A2,C2,sb,so,db,dO,a1,b1,⟨by unfold maxLen;omega,by unfold maxLen;omega,s1,d1,s2,d2⟩⟩
end
theorem q7X(a x c y:List Value)(h:x.length=y.length):spl (a ++ (x ++ c)).toArray a.length y=(a ++ (y ++ c)).toArray:=by
 apply Array.ext_getElem?;intro i;rw[q2v _ _ _ _ (by simp;omega)]
 simp only[List.getElem?_toArray]
 by_cases h1:i<a.length
 ·rw[if_neg (by omega),List.getElem?_append_left h1,List.getElem?_append_left h1]
 ·obtain ⟨j,rfl⟩:∃ j,i=a.length+j:=⟨i - a.length,by omega⟩
  have e:∀ z:List Value,(a ++ z)[a.length+j]?=z[j]?:=fun z=>by rw[List.getElem?_append_right (by omega),Nat.add_sub_cancel_left]
  rw[e,e,Nat.add_sub_cancel_left]
  by_cases h2:j<y.length
  ·rw[if_pos ⟨by omega,by omega⟩,List.getElem?_append_left h2]
  ·rw[if_neg (by omega),List.getElem?_append_right (by omega),List.getElem?_append_right (by omega),h]
theorem set_mid(a x c:List Value)(n j:Nat)(u:Value)(hn:a.length=n)(hj:j<x.length):((a ++ (x ++ c)).toArray).setIfInBounds (n+j) u=(a ++ (x.set j u ++ c)).toArray:=by
 subst hn;rw[List.setIfInBounds_toArray,List.set_append_right _ _ (by omega),Nat.add_sub_cancel_left,List.set_append_left _ _ hj]
def Join(A:Act)(R:World->Prop)(ex:Exit)(a:Act)(w:World):Prop:=ex=Exit.normal/\a=A/\R w
theorem z3P{P:Program}{c:Code}{Q:Exit->Act->World->Prop}{a:Act}{w:World}(R:World->Prop)(A:Act)(h1:Code.wp P c (Join A R) a w)(h2:∀ w',R w'->Q Exit.normal A w'):Code.wp P c Q a w:=
 Code.wp_mono (fun e a' w' h=>by obtain ⟨rfl,rfl,h⟩:=h;exact h2 w' h) h1
def j8x(A:Value->Act)(R:Value->World->Prop)(ex:Exit)(a:Act)(w:World):Prop:=∃ x,ex=Exit.normal/\a=A x/\R x w
theorem q3m{P:Program}{c:Code}{Q:Exit->Act->World->Prop}{a:Act}{w:World}(R:Value->World->Prop)(A:Value->Act)(h1:Code.wp P c (j8x A R) a w)(h2:∀ x w',R x w'->Q Exit.normal (A x) w'):Code.wp P c Q a w:=
 Code.wp_mono (fun e a' w' h=>by obtain ⟨x,rfl,rfl,h⟩:=h;exact h2 x w' h) h1
end Pv
namespace Ln
open Go.RowKit
theorem q6m(x:Line)(k:Int)(s:ByteArray)(said now:Int) :
  (z3Y x≠0/\(z7o x k s said now,z4a x k s said now)=(x,z3Y x))∨(z3Y x=0/\((k≠x.g+1/\(z7o x k s said now,z4a x k s said now)=(x,10)) ∨
  (k=x.g+1/\((said<k/\(z7o x k s said now,z4a x k s said now)=(x,9))∨(k<=said/\(((x.S.length:Int)<k/\(z7o x k s said now,z4a x k s said now)=(x,9))∨(k<=x.S.length /\
   ((x.S.getD (k - 1).toNat ByteArray.empty≠s/\(z7o x k s said now,z4a x k s said now)=(x,9))∨(x.S.getD (k - 1).toNat ByteArray.empty=s /\
    ((x.D.getD (k - 1).toNat 0<=now/\(z7o x k s said now,z4a x k s said now)=(x,12))∨(now<x.D.getD (k - 1).toNat 0/\(z7o x k s said now,z4a x k s said now)=(⟨x.S,x.D,k,x.cl⟩,0)))))))))))):=by
 have no:∀ e,z4a x k s said now=e->e≠0->(z7o x k s said now,z4a x k s said now)=(x,e):=fun e h h0=>by unfold z7o;rw[h,if_neg h0]
 by_cases h1:z3Y x=0
 ·right
  have g1:¬ z3Y x≠0:=fun h=>h h1;refine ⟨h1,?_⟩
  by_cases h2:k=x.g+1
  ·right
   have g2:¬ k≠x.g+1:=fun h=>h h2;refine ⟨h2,?_⟩
   by_cases h3:said<k
   ·left;exact ⟨h3,no 9 (by rw[z4a,if_neg g1,if_neg g2,if_pos (.inl h3)]) (by decide)⟩
   ·right
    refine ⟨by omega,?_⟩
    by_cases h4:(x.S.length:Int)<k
    ·left;exact ⟨h4,no 9 (by rw[z4a,if_neg g1,if_neg g2,if_pos (.inr (.inl h4))]) (by decide)⟩
    ·right
     refine ⟨by omega,?_⟩
     by_cases h5:x.S.getD (k - 1).toNat ByteArray.empty=s
     ·right
      refine ⟨h5,?_⟩
      have h6:¬ (said<k∨(x.S.length:Int)<k∨x.S.getD (k - 1).toNat ByteArray.empty≠s):=by
       rintro (h | h | h)
       ·exact h3 h
       ·exact h4 h
       ·exact h h5
      by_cases h7:x.D.getD (k - 1).toNat 0<=now
      ·left;exact ⟨h7,no 12 (by rw[z4a,if_neg g1,if_neg g2,if_neg h6,if_pos h7]) (by decide)⟩
      ·right
       have e:z4a x k s said now=0:=by rw[z4a,if_neg g1,if_neg g2,if_neg h6,if_neg h7]
       exact ⟨by omega,by unfold z7o;rw[e,if_pos rfl]⟩
     ·left;exact ⟨h5,no 9 (by rw[z4a,if_neg g1,if_neg g2,if_pos (.inr (.inr h5))]) (by decide)⟩
  ·left;exact ⟨h2,no 10 (by rw[z4a,if_neg g1,if_pos h2]) (by decide)⟩
 ·left;exact ⟨h1,no _ (by rw[z4a,if_pos h1]) h1⟩
theorem j4A(x:Line)(sa da:Option Addr)(cs cd sb so db dO:Nat)(k:Int)(s:ByteArray)(said now:Int)(w:World)(L:LAt w x sa da cs cd sb so db dO) :
  Calls prog 93 #[.agg #[.slice sa x.S.length cs,.slice da x.D.length cd,.int .i64 x.g,.bool x.cl],.int .i64 k,.string s,.int .i64 said,.int .i64 now] w fun e w'=>Ans sb db x w (z7o x k s said now,z4a x k s said now) e w':=by
 have hcs:=q6m x k s said now;generalize (z7o x k s said now,z4a x k s said now)=r at *;have HB:=hide (begun L);have HREF:=hide (fun w (L:LAt w x sa da cs cd sb so db dO)=>q2r x sa da cs cd sb so db dO w L);have HHAS:=hide (fun w=>q8Q x sa da cs cd k w);have HGD:=hide (fun h=>z7S (z7b (x:=x) h).1);clear L
 go_enter func93,ntmps93
 go_upto_region 1 with fail
 generalize ((w.alloc (.cells #[.slice sa x.S.length cs,.slice da x.D.length cd,.int .i64 x.g,.bool x.cl] 47)).alloc (.cells #[.slice none 0 0,.slice none 0 0,.int .i64 0,.bool false] 47))=w0 at *;obtain ⟨⟨c0,c1,c2,c3⟩,-⟩:=HB.out.F1.facts;obtain ⟨⟨d0,d1,d2,d3⟩,⟨f0,f1,f2,f3⟩⟩:=HB.out.F2.facts;generalize z3Y x=R at *
 rcases hcs with ⟨h1,hr⟩ | ⟨rfl,hcs⟩
 ·have HR:=hide hr;have h1':(R != 0)=true:=by simpa using h1
  clear hr h1
  go_wp2_with (go_at_call 129;refine (HREF.out _ HB.out.L).mono ?_;rintro e w1 ⟨rfl,hb⟩;have HB1:=hide (HB.out.over hb);clear hb c0 c1 c2 c3 d0 d1 d2 d3 f0 f1 f2 f3;obtain ⟨⟨c0,c1,c2,c3⟩,-⟩:=HB1.out.F1.facts;obtain ⟨⟨d0,d1,d2,d3⟩,⟨f0,f1,f2,f3⟩⟩:=HB1.out.F2.facts)
  exact HB1.out.z0D rfl _ _ HR.out _ rfl rfl rfl
 obtain ⟨hl1,hl2,hg0,hg1⟩:=HGD.out rfl;have HL1:=hide hl1;clear hl1
 go_upto_region 4 with (go_at_call 129;refine (HREF.out _ HB.out.L).mono ?_;rintro e w1 ⟨rfl,hb⟩;have HB1:=hide (HB.out.over hb);clear hb c0 c1 c2 c3 d0 d1 d2 d3 f0 f1 f2 f3;obtain ⟨⟨c0,c1,c2,c3⟩,⟨e0,e1,e2,e3⟩⟩:=HB1.out.F1.facts;obtain ⟨⟨d0,d1,d2,d3⟩,⟨f0,f1,f2,f3⟩⟩:=HB1.out.F2.facts)
 clear HB HREF w0
 rcases hcs with ⟨h2,hr⟩ | ⟨h2,hcs⟩
 ·have HR:=hide hr;have h2':(k != x.g+1)=true:=by simpa using h2
  clear hr h2;go_wp2;exact HB1.out.z0D rfl _ _ HR.out _ rfl rfl rfl
 have h2':(k != x.g+1)=false:=by simpa using h2
 have hk0:1<=k:=by omega
 have HK:=hide h2;clear h2
 go_upto_region 6 with fail
 clear h2'
 rcases hcs with ⟨h3,hr⟩ | ⟨h3,hcs⟩
 ·have HR:=hide hr;clear hr
  go_wp2_with (go_at_call 130;exfalso;omega)
  exact HB1.out.z0D rfl _ _ HR.out _ rfl rfl rfl
 rcases hcs with ⟨h4,hr⟩ | ⟨h4,hcs⟩
 ·have HR:=hide hr;have hd:(decide (1<=k) && decide (k<=(x.S.length:Int)))=false:=by simp;omega
  rw[hd]at HHAS;clear hr hd
  go_wp2_with (go_at_call 130;refine (HHAS.out _).mono ?_;rintro e w2 ⟨rfl,hb⟩;have HB2:=hide (HB1.out.over hb);clear hb c0 c1 c2 c3 e0 e1 e2 e3 d0 d1 d2 d3 f0 f1 f2 f3;obtain ⟨⟨c0,c1,c2,c3⟩,-⟩:=HB2.out.F1.facts;obtain ⟨⟨d0,d1,d2,d3⟩,⟨f0,f1,f2,f3⟩⟩:=HB2.out.F2.facts)
  exact HB2.out.z0D rfl _ _ HR.out _ rfl rfl rfl
 have hd:(decide (1<=k) && decide (k<=(x.S.length:Int)))=true:=by simp;omega
 rw[hd]at HHAS;clear hd;obtain ⟨j,hj⟩:∃ j:Nat,k - 1=(j:Int):=⟨(k - 1).toNat,by omega⟩
 have hjS:j<x.S.length:=by omega
 have hjD:j<x.D.length:=by rw[HL1.out];exact hjS
 have hjI:(j:Int)<(x.S.length:Int):=by omega
 have hjJ:(j:Int)<(x.D.length:Int):=by omega
 rw[hj,Int.toNat_natCast]at hcs;obtain rfl:k=(j:Int)+1:=by omega
 have esa:=HB1.out.L.hsa (by omega)
 have eda:=HB1.out.L.hda (by omega)
 subst esa eda;obtain ⟨t,ht⟩:∃ t,x.S.getD j ByteArray.empty=t:=⟨_,rfl⟩;obtain ⟨y,hy⟩:∃ y,x.D.getD j 0=y:=⟨_,rfl⟩;rw[ht,hy]at hcs;have HT:=hide ht;have HY:=hide hy;clear ht hy
 rcases hcs with ⟨h5,hr⟩ | ⟨rfl,hcs⟩
 ·have HR:=hide hr;have h5':=j7D h5;clear hr h5
  go_wp2_with (go_at_call 130;refine (HHAS.out _).mono ?_;rintro e w2 ⟨rfl,hb⟩;have HB2:=hide (HB1.out.over hb);clear hb c0 c1 c2 c3 e0 e1 e2 e3 d0 d1 d2 d3 f0 f1 f2 f3;obtain ⟨⟨c0,c1,c2,c3⟩,-⟩:=HB2.out.F1.facts;obtain ⟨⟨d0,d1,d2,d3⟩,⟨f0,f1,f2,f3⟩⟩:=HB2.out.F2.facts;have ct:=HB2.out.L.PS j hjS;rw[HT.out]at ct)
  exact HB2.out.z0D rfl _ _ HR.out _ rfl rfl rfl
 rcases hcs with ⟨h6,hr⟩ | ⟨h6,hr⟩
 ·have HR:=hide hr;clear hr
  go_wp2_with (go_at_call 130;refine (HHAS.out _).mono ?_;rintro e w2 ⟨rfl,hb⟩;have HB2:=hide (HB1.out.over hb);clear hb c0 c1 c2 c3 e0 e1 e2 e3 d0 d1 d2 d3 f0 f1 f2 f3;obtain ⟨⟨c0,c1,c2,c3⟩,-⟩:=HB2.out.F1.facts;obtain ⟨⟨d0,d1,d2,d3⟩,⟨f0,f1,f2,f3⟩⟩:=HB2.out.F2.facts;have ct:=HB2.out.L.PS j hjS;rw[HT.out]at ct;have cy:=HB2.out.L.PD j hjD;rw[HY.out]at cy)
  exact HB2.out.z0D rfl _ _ HR.out _ rfl rfl rfl
 ·have HR:=hide hr;clear hr
  go_upto_region 11 with (go_at_call 130;refine (HHAS.out _).mono ?_;rintro e w2 ⟨rfl,hb⟩;have HB2:=hide (HB1.out.over hb);clear hb c0 c1 c2 c3 e0 e1 e2 e3 d0 d1 d2 d3 f0 f1 f2 f3;obtain ⟨⟨c0,c1,c2,c3⟩,⟨e0,e1,e2,e3⟩⟩:=HB2.out.F1.facts;have ct:=HB2.out.L.PS j hjS;rw[HT.out]at ct;have cy:=HB2.out.L.PD j hjD;rw[HY.out]at cy)
  have F1:=HB2.out.F1.q7O (.int .i64 ((j:Int)+1));have F2:=HB2.out.F2.other (c:=w.heap.size) (o:=2) (by omega) (.int .i64 ((j:Int)+1))
  have BW:=HB2.out.below.setCell (p:=⟨w.heap.size,2,none⟩) (Nat.le_refl _) (.int .i64 ((j:Int)+1));have LL:=HB2.out.L.z3Z ((Below.refl w.heap.size w2).setCell (p:=⟨w.heap.size,2,none⟩) (Nat.le_refl _) (.int .i64 ((j:Int)+1))) HB2.out.ltS HB2.out.ltD;clear c0 c1 c2 c3 e0 e1 e2 e3 ct cy;generalize (w2.setCell ⟨w.heap.size,2,none⟩ (.int .i64 ((j:Int)+1)))=w3 at *;obtain ⟨⟨c0,c1,c2,c3⟩,-⟩:=F1.facts;obtain ⟨⟨d0,d1,d2,d3⟩,⟨f0,f1,f2,f3⟩⟩:=F2.facts;have HX:=hide (show _/\_/\_ from ⟨F2,BW,LL⟩);have HLT:=hide (And.intro HB2.out.ltS HB2.out.ltD);clear F1 F2 BW LL;go_wp2;exact z6W rfl HX.out.1 HX.out.2.1 (Nat.le_succ _) ⟨x.S,x.D,(j:Int)+1,x.cl⟩ _ _ _ _ _ _ _ _ ⟨HX.out.2.2.hls,HX.out.2.2.hld,HX.out.2.2.hsa,HX.out.2.2.hda,HX.out.2.2.ncs,HX.out.2.2.ncd,HX.out.2.2.PS,HX.out.2.2.PD⟩ (fun h=>by have:=HLT.out.1 h;omega) (fun h=>by have:=HLT.out.2 h;omega) (fun _=>.inl ⟨rfl,rfl⟩) (fun _=>.inl ⟨rfl,rfl⟩) _ _ rfl rfl _ _ HR.out _ rfl rfl rfl
theorem q7C(x:Line)(k time got:Int) :
  (z3Y x≠0/\(z9n x k time got,z5l x k time got)=(x,z3Y x))∨(z3Y x=0/\(((k<1∨(x.S.length:Int)<k)/\(z9n x k time got,z5l x k time got)=(x,4)) ∨
  (1<=k/\k<=x.S.length/\((k<=got/\(z9n x k time got,z5l x k time got)=(x,5))∨(got<k/\((time<x.D.getD (k - 1).toNat 0/\(z9n x k time got,z5l x k time got)=(x,13)) ∨
   (x.D.getD (k - 1).toNat 0<=time/\(z9n x k time got,z5l x k time got)=(⟨x.S,x.D,x.g,true⟩,0)))))))):=by
 have no:∀ e,z5l x k time got=e->e≠0->(z9n x k time got,z5l x k time got)=(x,e):=fun e h h0=>by unfold z9n;rw[h,if_neg h0]
 by_cases h1:z3Y x=0
 ·right
  have g1:¬ z3Y x≠0:=fun h=>h h1;refine ⟨h1,?_⟩
  by_cases h2:k<1∨(x.S.length:Int)<k
  ·left;exact ⟨h2,no 4 (by rw[z5l,if_neg g1,if_pos h2]) (by decide)⟩
  ·right
   refine ⟨by omega,by omega,?_⟩
   by_cases h3:k<=got
   ·left;exact ⟨h3,no 5 (by rw[z5l,if_neg g1,if_neg h2,if_pos h3]) (by decide)⟩
   ·right
    refine ⟨by omega,?_⟩
    by_cases h4:time<x.D.getD (k - 1).toNat 0
    ·left;exact ⟨h4,no 13 (by rw[z5l,if_neg g1,if_neg h2,if_neg h3,if_pos h4]) (by decide)⟩
    ·right
     have e:z5l x k time got=0:=by rw[z5l,if_neg g1,if_neg h2,if_neg h3,if_neg h4]
     exact ⟨by omega,by unfold z9n;rw[e,if_pos rfl]⟩
 ·left;exact ⟨h1,no _ (by rw[z5l,if_pos h1]) h1⟩
theorem j3Q(x:Line)(sa da:Option Addr)(cs cd sb so db dO:Nat)(k time got:Int)(w:World)(L:LAt w x sa da cs cd sb so db dO) :
  Calls prog 95 #[.agg #[.slice sa x.S.length cs,.slice da x.D.length cd,.int .i64 x.g,.bool x.cl],.int .i64 k,.int .i64 time,.int .i64 got] w fun e w'=>Ans sb db x w (z9n x k time got,z5l x k time got) e w':=by
 have hcs:=q7C x k time got;generalize (z9n x k time got,z5l x k time got)=r at *;have HB:=hide (begun L);have HREF:=hide (fun w (L:LAt w x sa da cs cd sb so db dO)=>q2r x sa da cs cd sb so db dO w L);have HHAS:=hide (fun w=>q8Q x sa da cs cd k w);have HGD:=hide (fun h=>z7S (z7b (x:=x) h).1);clear L
 go_enter func95,ntmps95
 go_upto_region 1 with fail
 generalize ((w.alloc (.cells #[.slice sa x.S.length cs,.slice da x.D.length cd,.int .i64 x.g,.bool x.cl] 47)).alloc (.cells #[.slice none 0 0,.slice none 0 0,.int .i64 0,.bool false] 47))=w0 at *;obtain ⟨⟨c0,c1,c2,c3⟩,-⟩:=HB.out.F1.facts;obtain ⟨⟨d0,d1,d2,d3⟩,⟨f0,f1,f2,f3⟩⟩:=HB.out.F2.facts;generalize z3Y x=R at *
 rcases hcs with ⟨h1,hr⟩ | ⟨rfl,hcs⟩
 ·have HR:=hide hr;have h1':(R != 0)=true:=by simpa using h1
  clear hr h1
  go_wp2_with (go_at_call 129;refine (HREF.out _ HB.out.L).mono ?_;rintro e w1 ⟨rfl,hb⟩;have HB1:=hide (HB.out.over hb);clear hb c0 c1 c2 c3 d0 d1 d2 d3 f0 f1 f2 f3;obtain ⟨⟨c0,c1,c2,c3⟩,-⟩:=HB1.out.F1.facts;obtain ⟨⟨d0,d1,d2,d3⟩,⟨f0,f1,f2,f3⟩⟩:=HB1.out.F2.facts)
  exact HB1.out.z0D rfl _ _ HR.out _ rfl rfl rfl
 obtain ⟨hl1,hl2,-,-⟩:=HGD.out rfl;have HL1:=hide hl1;clear hl1
 go_upto_region 4 with (go_at_call 129;refine (HREF.out _ HB.out.L).mono ?_;rintro e w1 ⟨rfl,hb⟩;have HB1:=hide (HB.out.over hb);clear hb c0 c1 c2 c3 d0 d1 d2 d3 f0 f1 f2 f3;obtain ⟨⟨c0,c1,c2,c3⟩,-⟩:=HB1.out.F1.facts)
 clear HB HREF w0
 rcases hcs with ⟨h2,hr⟩ | ⟨h2,h2',hcs⟩
 ·have HR:=hide hr;have hd:(decide (1<=k) && decide (k<=(x.S.length:Int)))=false:=by simp;omega
  rw[hd]at HHAS;clear hr hd h2
  go_wp2_with (go_at_call 130;refine (HHAS.out _).mono ?_;rintro e w2 ⟨rfl,hb⟩;have HB2:=hide (HB1.out.over hb);clear hb c0 c1 c2 c3;obtain ⟨⟨c0,c1,c2,c3⟩,-⟩:=HB2.out.F1.facts;obtain ⟨⟨d0,d1,d2,d3⟩,⟨f0,f1,f2,f3⟩⟩:=HB2.out.F2.facts)
  exact HB2.out.z0D rfl _ _ HR.out _ rfl rfl rfl
 have hd:(decide (1<=k) && decide (k<=(x.S.length:Int)))=true:=by simp;omega
 rw[hd]at HHAS;clear hd;obtain ⟨j,hj⟩:∃ j:Nat,k - 1=(j:Int):=⟨(k - 1).toNat,by omega⟩
 have hjS:j<x.S.length:=by omega
 have hjD:j<x.D.length:=by rw[HL1.out];exact hjS
 have hjJ:(j:Int)<(x.D.length:Int):=by omega
 rw[hj,Int.toNat_natCast]at hcs;obtain rfl:k=(j:Int)+1:=by omega
 have eda:=HB1.out.L.hda (by omega)
 subst eda;obtain ⟨y,hy⟩:∃ y,x.D.getD j 0=y:=⟨_,rfl⟩;rw[hy]at hcs;have HY:=hide hy;clear hy
 go_upto_region 6 with (go_at_call 130;refine (HHAS.out _).mono ?_;rintro e w2 ⟨rfl,hb⟩;have HB2:=hide (HB1.out.over hb);clear hb c0 c1 c2 c3;obtain ⟨⟨c0,c1,c2,c3⟩,⟨e0,e1,e2,e3⟩⟩:=HB2.out.F1.facts;obtain ⟨⟨d0,d1,d2,d3⟩,⟨f0,f1,f2,f3⟩⟩:=HB2.out.F2.facts;have cy:=HB2.out.L.PD j hjD;rw[HY.out]at cy)
 rcases hcs with ⟨h3,hr⟩ | ⟨h3,hcs⟩
 ·have HR:=hide hr;clear hr;go_wp2;exact HB2.out.z0D rfl _ _ HR.out _ rfl rfl rfl
 rcases hcs with ⟨h4,hr⟩ | ⟨h4,hr⟩
 ·have HR:=hide hr;clear hr;go_wp2;exact HB2.out.z0D rfl _ _ HR.out _ rfl rfl rfl
 ·have HR:=hide hr;clear hr
  go_upto_region 11 with fail
  have F1:=HB2.out.F1.q9M (.bool true);have F2:=HB2.out.F2.other (c:=w.heap.size) (o:=3) (by omega) (.bool true)
  have BW:=HB2.out.below.setCell (p:=⟨w.heap.size,3,none⟩) (Nat.le_refl _) (.bool true);have LL:=HB2.out.L.z3Z ((Below.refl w.heap.size w2).setCell (p:=⟨w.heap.size,3,none⟩) (Nat.le_refl _) (.bool true)) HB2.out.ltS HB2.out.ltD;clear c0 c1 c2 c3 e0 e1 e2 e3 d0 d1 d2 d3 f0 f1 f2 f3 cy;generalize (w2.setCell ⟨w.heap.size,3,none⟩ (.bool true))=w3 at *;obtain ⟨⟨c0,c1,c2,c3⟩,-⟩:=F1.facts;obtain ⟨⟨d0,d1,d2,d3⟩,⟨f0,f1,f2,f3⟩⟩:=F2.facts;have HX:=hide (show _/\_/\_ from ⟨F2,BW,LL⟩);have HLT:=hide (And.intro HB2.out.ltS HB2.out.ltD);clear F1 F2 BW LL;go_wp2;exact z6W rfl HX.out.1 HX.out.2.1 (Nat.le_succ _) ⟨x.S,x.D,x.g,true⟩ _ _ _ _ _ _ _ _ ⟨HX.out.2.2.hls,HX.out.2.2.hld,HX.out.2.2.hsa,HX.out.2.2.hda,HX.out.2.2.ncs,HX.out.2.2.ncd,HX.out.2.2.PS,HX.out.2.2.PD⟩ (fun h=>by have:=HLT.out.1 h;omega) (fun h=>by have:=HLT.out.2 h;omega) (fun _=>.inl ⟨rfl,rfl⟩) (fun _=>.inl ⟨rfl,rfl⟩) _ _ rfl rfl _ _ HR.out _ rfl rfl rfl
end Ln
namespace Cd
open Go.RowKit
def z5e(acc:Int)(l:List Int):Int:=l.foldl (fun n c=>n * 256+c) acc
theorem q0T(m:Nat):(2:Int) ^ (8 * (m+1))=2 ^ (8 * m) * 256:=by
 rw[show 8 * (m+1)=8 * m+8 by omega,Int.pow_add];rfl
theorem j0l(m:Nat):(0:Int)<2 ^ (8 * m):=Int.pow_pos (by decide)
theorem j3Y(n:Int)(m:Nat):∀ c∈be n m,0<=c/\c<256:=by
 induction m with
 | zero=>simp[be]
 | succ m ih =>
  intro c hc
  rcases List.mem_cons.1 hc with rfl | hc
  ·omega
  ·exact ih c hc
theorem j0R(k i v n:Int)(S:List (Int×Int))(D:List Int):∀ c∈enc k i v n S D,0<=c/\c<256:=by
 intro c hc;unfold enc q4q at hc;simp only[List.mem_append,List.mem_flatMap,z9W]at hc
 rcases hc with ((((((h | h) | h) | h) | h) | ⟨p,_,h | h⟩) | h) | ⟨p,_,h⟩ <;> exact j3Y _ _ c h
end Cd
section
open Go.RowKit
theorem j0n(g cap:Nat)(l:List Pw)(w:World)(h:z1F w g l)(hn:l.length<=12) :
  Calls prog 179 #[.slice (some ⟨g,0,none⟩) l.length cap,.int .i64 0,.int .i64 (l.length:Int),.func (.func 118) #[] #[]] w fun e w'=>e=.returned (.tuple #[])/\z1F w' g (z2m ltP l)/\z2J g w w':=by
 have HR0:=hide h;clear h
 go_enter func179,ntmps179
 go_wp2
 go_loopw [8] (fun i wl=>∃ m:Nat,i=.int .i64 ((m:Int)+1)/\(m+1<=l.length∨m=0)/\Hid (z1F wl g (z1l ltP l m)/\z2J g w wl)) (fun i _=>l.length - (intOf i).toNat)
 case atStart=>exact ⟨0,rfl,.inr rfl,HR0.out,z2J.refl _ _⟩
 case round =>
  obtain ⟨m,rfl,hm,HR⟩:=hrel
  by_cases hlt:m+1<l.length
  ·rename World=>wo
   have hlt':(m:Int)+1<(l.length:Int):=by omega
   go_wp2_with fail
   go_loopw [9] (fun j wl=>∃ (p:Nat) (l':List Pw),j=.int .i64 (p:Int)/\p<=m+1/\l'.length=l.length/\Hid (z7X ltP (m+1) (z1l ltP l m)=z7X ltP p l'/\z1F wl g l'/\z2J g w wl)) (fun j _=>(intOf j).toNat)
   case atStart=>exact ⟨m+1,z1l ltP l m,by go_num,Nat.le_refl _,z1N _ _ _,rfl,HR.out⟩
   case round =>
    obtain ⟨p,l',rfl,hp,hl',HI⟩:=hrel;have hsz:w.heap.size<=wr.heap.size:=HI.out.2.2.size;cases p with
    | zero =>
     have hg0:decide ((0:Int)<0)=false:=by decide
     go_upto_region 4 with fail
     go_quiet (fail);go_wp2;go_roundw
     case rel=>exact ⟨m+1,by go_num,.inl (by omega),(by rw[z1l,HI.out.1];exact HI.out.2.1),(show z2J g w (wr.drewN nq) from HI.out.2.2.drewN nq)⟩
     case measure=>simp[intOf];omega
    | succ p =>
     have hp1:p+1<l'.length:=by omega
     obtain ⟨c0,c1⟩:=HI.out.2.1.cell (i:=p+1) hp1;obtain ⟨d0,d1⟩:=HI.out.2.1.cell (i:=p) (by omega)
     have hC:=q2d (l'.getD (p+1) pz) (l'.getD p pz);have hgl:=HI.out.2.1.lt;have HI1:Hid (z7X ltP (m+1) (z1l ltP l m)=if ltP (l'.getD (p+1) pz) (l'.getD p pz)=true then z7X ltP p (swapAt l' p) else l'):=HI.out.1;have hlt2:Hid (ltP (l'.getD (p+1) pz) (l'.getD p pz)=decide (j5J (l'.getD (p+1) pz) (l'.getD p pz)<0)):=rfl;have HRow:=hide HI.out.2;clear HI;generalize j5J (l'.getD (p+1) pz) (l'.getD p pz)=r at *;generalize hA:l'.getD (p+1) pz=A at *;generalize hB:l'.getD p pz=B at *;have HA:=hide hA;have HB:=hide hB;clear hA hB;have hw1:IntKind.i64.wrap (((p+1:Nat):Int) - 1)=(p:Int):=by rw[show ((p+1:Nat):Int) - 1=(p:Int) by omega];exact z7V (by omega) (by omega)
     generalize hq:p+1=q at *;have HQ:=hide hq;clear hq;have hq0:(0:Int)<=(q:Int):=by omega
     have hq1:(q:Int)<(l.length:Int):=by omega
     have hp0:(0:Int)<=(p:Int):=by omega
     have hp2:(p:Int)<(l.length:Int):=by have:=HQ.out;omega
     have hg0:decide (0<q)=true:=by have:=HQ.out;simp;omega
     go_upto_region 4 with fail
     go_region_held3 (fun wx=>wx.cell? ⟨g,q * 2,none⟩=some (.int .i64 A.1)/\wx.cell? ⟨g,q * 2+1,none⟩=some (.int .i64 A.2)/\wx.cell? ⟨g,p * 2,none⟩=some (.int .i64 B.1)/\wx.cell? ⟨g,p * 2+1,none⟩=some (.int .i64 B.2)) (first | go_keep | (refine ⟨?_,?_,?_,?_⟩ <;> (rw[hbC.cell hgl];simp[*])))
      (first | (go_at_call 118;refine (hC _).mono ?_;rintro e w1 ⟨rfl,hbC⟩))
     rename_i hh;obtain ⟨c0',c1',d0',d1'⟩:=hh;have hR1:=HRow.out.1.later (w':=w1) (show Below wr.heap.size wr w1 from ((Below.refl _ wr).drew.trans hbC));have hB1:z2J g w w1:=HRow.out.2.trans (z2J.of_below (show Below wr.heap.size wr w1 from ((Below.refl _ wr).drew.trans hbC)));have HR1:=hide hR1;have HB1:=hide hB1;have f0:=hR1.free (q * 2);have f1:=hR1.free (q * 2+1);have f2:=hR1.free (p * 2);have f3:=hR1.free (p * 2+1);clear hR1 hB1 hbC c0 c1 d0 d1 HRow hC
     by_cases hr:r<0
     ·have hd:decide (r<0)=true:=by simpa using hr
      rw[hd];have hqp:=HQ.out;have n1:¬ p=q:=by omega
      have n2:¬ q=p:=by omega
      have n3:¬ p * 2=q * 2+1:=by omega
      have n4:¬ q * 2=p * 2+1:=by omega
      have n5:¬ p * 2+1=q * 2:=by omega
      have n6:¬ q * 2+1=p * 2:=by omega
      have n7:¬ p * 2=q * 2:=by omega
      have n8:¬ q * 2=p * 2:=by omega
      clear hqp
      go_upto_region 6 with fail
      go_region;have hsw:(l'.set q B).set p A=swapAt l' p:=by rw[swapAt,HQ.out,HA.out,HB.out]
      have HR2:Hid (z1F (((((w1.setCell ⟨g,q * 2,none⟩ (.int .i64 B.1)).setCell ⟨g,q * 2+1,none⟩ (.int .i64 B.2)).setCell ⟨g,p * 2,none⟩ (.int .i64 A.1)).setCell ⟨g,p * 2+1,none⟩ (.int .i64 A.2)).drew) g (swapAt l' p)):=by
       rw[← hsw];exact (HR1.out.put hp1 B).put (by simp;omega) A
      have HB2:Hid (z2J g w (((((w1.setCell ⟨g,q * 2,none⟩ (.int .i64 B.1)).setCell ⟨g,q * 2+1,none⟩ (.int .i64 B.2)).setCell ⟨g,p * 2,none⟩ (.int .i64 A.1)).setCell ⟨g,p * 2+1,none⟩ (.int .i64 A.2)).drew)):=((((HB1.out.set _ _).set _ _).set _ _).set _ _).drew;have HE:Hid (z7X ltP (m+1) (z1l ltP l m)=z7X ltP p (swapAt l' p)):=by rw[HI1.out,hlt2.out,hd];exact if_pos rfl
      clear hsw;generalize ((((w1.setCell ⟨g,q * 2,none⟩ (.int .i64 B.1)).setCell ⟨g,q * 2+1,none⟩ (.int .i64 B.2)).setCell ⟨g,p * 2,none⟩ (.int .i64 A.1)).setCell ⟨g,p * 2+1,none⟩ (.int .i64 A.2)).drew=w2 at *;go_wp2;go_roundw
      case rel=>exact ⟨p,swapAt l' p,rfl,by have:=HQ.out;omega,(by rw[z2X];exact hl'),HE.out,HR2.out,HB2.out⟩
      case measure=>have:=HQ.out;simp[intOf];omega
     ·have hd:decide (r<0)=false:=by simpa using hr
      rw[hd];have HE:Hid (z7X ltP (m+1) (z1l ltP l m)=l'):=by rw[HI1.out,hlt2.out,hd];exact if_neg (by simp)
      go_wp2;go_roundw
      case rel=>exact ⟨m+1,by go_num,.inl (by omega),(by rw[z1l,HE.out];exact HR1.out),HB1.out⟩
      case measure=>simp[intOf];omega
  ·have hE:z2m ltP l=z1l ltP l m:=by
    unfold z2m
    rcases hm with h | rfl
    ·rw[show l.length - 1=m by omega]
    ·rcases (show l.length=0∨l.length=1 by omega) with h | h <;> rw[h]
   have HE:=hide hE;clear hE;go_wp2;go_end0;exact ⟨rfl,by rw[HE.out];exact HR.out.1,HR.out.2⟩
theorem j8E(g cap:Nat)(lim:Int)(l:List Pw)(w:World)(h:z1F w g l)(hn:l.length<=12) :
  Calls prog 158 #[.slice (some ⟨g,0,none⟩) l.length cap,.int .i64 0,.int .i64 (l.length:Int),.int .i64 lim,.func (.func 118) #[] #[]] w fun e w'=>e=.returned (.tuple #[])/\z1F w' g (z2m ltP l)/\z2J g w w':=by
 have hI:=j0n g cap l w h hn;have hn':(l.length:Int)<=12:=by omega
 clear h
 go_enter func158,ntmps158
 go_wp2_with fail
 go_loopw [1,2] (fun a b wl=>a=.int .i64 0/\b=.int .i64 (l.length:Int)/\Hid (wl=w)) (fun _ _ _=>0)
 case atStart=>exact ⟨rfl,rfl,rfl⟩
 case round =>
  obtain ⟨rfl,rfl,HW⟩:=hrel;have e:=HW.out;subst e;clear HW
  go_wp2_with (go_at_call 179;refine hI.mono ?_;rintro e w1 ⟨rfl,h1⟩;have H1:=hide h1;clear h1)
  exact bodyPost_ret (v:=.tuple #[]) (by simp[results,results158]) rfl ⟨rfl,H1.out⟩
theorem q0u(n:Nat)(hn:n<=12)(w:World):Calls prog 159 #[.int .u64 (n:Int)] w fun e w'=>(∃ k,e=.returned (.int .i64 k))/\w=w':=by
 have hL:=Ra.j1L n (by omega)
 go_enter func159,ntmps159
 go_wp2_with (go_at_call 188;refine (hL _).mono ?_;rintro e w1 ⟨rfl,rfl⟩)
 go_ret;exact ⟨⟨_,rfl⟩,rfl⟩
theorem j5i(g cap:Nat)(l:List Pw)(w:World)(h:z1F w g l)(hn:l.length<=12) :
  Calls prog 117 #[.slice (some ⟨g,0,none⟩) l.length cap,.func (.func 118) #[] #[]] w fun e w'=>e=.returned (.tuple #[])/\z1F w' g (z2m ltP l)/\z2J g w w':=by
 have hP:=fun lim=>j8E g cap lim l w h hn;have hL:=q0u l.length hn w;clear h
 go_enter func117,ntmps117
 go_wp2_with (first
  | (go_at_call 159;refine hL.mono ?_;rintro e w1 ⟨⟨k,rfl⟩,rfl⟩)
  | (go_at_call 158;refine (hP _).mono ?_;rintro e w2 ⟨rfl,h1⟩;have H1:=hide h1;clear h1))
 go_end0;exact ⟨rfl,H1.out⟩
theorem j7Y(g cap:Nat)(lim:Int)(l:List Pw)(w:World)(h:z1F w g l)(hn:l.length<=12) :
  Calls prog 158 #[.slice (some ⟨g,0,none⟩) l.length cap,.int .i64 0,.int .i64 (l.length:Int),.int .i64 lim,.func (.func 119) #[] #[]] w fun e w'=>e=.returned (.tuple #[])/\z1F w' g (z2m ltV l)/\z2J g w w':=by
 have hI:=q9Q g cap l w h hn;have hn':(l.length:Int)<=12:=by omega
 clear h
 go_enter func158,ntmps158
 go_wp2_with fail
 go_loopw [1,2] (fun a b wl=>a=.int .i64 0/\b=.int .i64 (l.length:Int)/\Hid (wl=w)) (fun _ _ _=>0)
 case atStart=>exact ⟨rfl,rfl,rfl⟩
 case round =>
  obtain ⟨rfl,rfl,HW⟩:=hrel;have e:=HW.out;subst e;clear HW
  go_wp2_with (go_at_call 179;refine hI.mono ?_;rintro e w1 ⟨rfl,h1⟩;have H1:=hide h1;clear h1)
  exact bodyPost_ret (v:=.tuple #[]) (by simp[results,results158]) rfl ⟨rfl,H1.out⟩
theorem q7y(n:Nat)(hn:n<=12)(w:World):Calls prog 159 #[.int .u64 (n:Int)] w fun e w'=>(∃ k,e=.returned (.int .i64 k))/\w=w':=by
 have hL:=Ra.j1L n (by omega)
 go_enter func159,ntmps159
 go_wp2_with (go_at_call 188;refine (hL _).mono ?_;rintro e w1 ⟨rfl,rfl⟩)
 go_ret;exact ⟨⟨_,rfl⟩,rfl⟩
theorem q7d(g cap:Nat)(l:List Pw)(w:World)(h:z1F w g l)(hn:l.length<=12) :
  Calls prog 117 #[.slice (some ⟨g,0,none⟩) l.length cap,.func (.func 119) #[] #[]] w fun e w'=>e=.returned (.tuple #[])/\z1F w' g (z2m ltV l)/\z2J g w w':=by
 have hP:=fun lim=>j7Y g cap lim l w h hn;have hL:=q7y l.length hn w;clear h
 go_enter func117,ntmps117
 go_wp2_with (first
  | (go_at_call 159;refine hL.mono ?_;rintro e w1 ⟨⟨k,rfl⟩,rfl⟩)
  | (go_at_call 158;refine (hP _).mono ?_;rintro e w2 ⟨rfl,h1⟩;have H1:=hide h1;clear h1))
 go_end0;exact ⟨rfl,H1.out⟩
end
end Go.Proofs.YtmopekkhmhhcaaaGreat
