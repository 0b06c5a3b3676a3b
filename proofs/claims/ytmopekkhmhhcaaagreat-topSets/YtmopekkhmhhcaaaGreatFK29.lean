/- Parts of the proof. -/
import Derived.Test.YtmopekkhmhhcaaaGreatFL
import Derived.Test.YtmopekkhmhhcaaaGreatFK31
import Derived.Laws.BytesArg
set_option maxRecDepth 100000
set_option maxHeartbeats 16000000
namespace Go.Proofs.YtmopekkhmhhcaaaGreat
open Go.Proofs.Tryz
namespace Cd
open Go.RowKit
theorem z4z(l:List Int):∀ last:Int,-1<=last->z0h last l=true->(l.length:Int)<=5 - last∨l=[]:=by
 induction l with
 | nil=>intro _ _ _;exact .inr rfl
 | cons x t ih =>
  intro last hl h;simp only[z0h,Bool.and_eq_true,decide_eq_true_eq,isV]at h;obtain⟨⟨h1,h2⟩,h3⟩:=h
  rcases ih x (by omega) h3 with h4 | h4
  ·left;simp only[List.length_cons];omega
  ·subst h4;left;simp;omega
theorem z3U(l:List (Int×Int)):∀ last:Int,-1<=last->z0d last l=true->(l.length:Int)<=5 - last∨l=[]:=by
 induction l with
 | nil=>intro _ _ _;exact .inr rfl
 | cons x t ih =>
  intro last hl h;simp only[z0d,Bool.and_eq_true,decide_eq_true_eq,isV]at h;obtain⟨⟨⟨⟨h1,h2⟩,_⟩,_⟩,h3⟩:=h
  rcases ih x.1 (by omega) h3 with h4 | h4
  ·left;simp only[List.length_cons];omega
  ·subst h4;left;simp;omega
theorem z9g{k i v n:Int}{S:List (Int×Int)}{D:List Int}(h:z0m k i v n S D=0):z0d (-1) S=true/\z0h (-1) D=true/\S.length<=6/\D.length<=6:=by
 have h0:z0d (-1) S=true/\z0h (-1) D=true:=by
  rcases z5o k i v n S D with h | h | ⟨_,_,h | h | ⟨_,_,h | h | h | ⟨_,h | h | h | h⟩⟩⟩ <;> simp_all
 refine⟨h0.1,h0.2,?_,?_⟩
 ·rcases z3U S (-1) (by omega) h0.1 with h | h
  ·omega
  ·subst h;simp
 ·rcases z4z D (-1) (by omega) h0.2 with h | h
  ·omega
  ·subst h;simp
def j7E(w:World)(b:Nat)(k i v n:Int)(s d:Value):Prop:=
 w.cell? ⟨b,0,none⟩=some (.int .i64 k)/\w.cell? ⟨b,1,none⟩=some (.int .i64 i)/\w.cell? ⟨b,2,none⟩=some (.int .i64 v) /\
 w.cell? ⟨b,3,none⟩=some (.int .i64 n)/\w.cell? ⟨b,4,none⟩=some s/\w.cell? ⟨b,5,none⟩=some d
theorem q3s(w:World)(k i v n:Int)(s d:Value):j7E (w.alloc (.cells #[.int .i64 k,.int .i64 i,.int .i64 v,.int .i64 n,s,d] 70)) w.heap.size k i v n s d:=by
 unfold j7E
 simp[World.cell?_alloc_at]
theorem j7E.later{w w':World}{B b:Nat}{k i v n:Int}{s d:Value}(h:j7E w b k i v n s d)(hb:Below B w w')(hB:b<B):j7E w' b k i v n s d:=by
 obtain⟨h0,h1,h2,h3,h4,h5⟩:=h;exact⟨(hb.cell (p:=⟨b,0,none⟩) hB).trans h0,(hb.cell (p:=⟨b,1,none⟩) hB).trans h1,(hb.cell (p:=⟨b,2,none⟩) hB).trans h2,(hb.cell (p:=⟨b,3,none⟩) hB).trans h3,(hb.cell (p:=⟨b,4,none⟩) hB).trans h4,(hb.cell (p:=⟨b,5,none⟩) hB).trans h5⟩
theorem Row.below{W w w':World}{B:Nat}{v:Value}{xs:List Int}(h:Row w B v xs)(hb:Below B W w)(hB:B<=W.heap.size)(hg:w.grownBy w' v.ownBlock):Below B W w':=
 hb.grown hg (Nat.le_trans hB hb.size) (fun k hk=>(World.ownsRow.lt h k hk).1)
theorem q6q(k i v n:Int)(S:List (Int×Int))(D:List Int)(sa da:Option Addr)(cs cd sb so db dO:Nat)(w:World)
  (hls:S.length<=maxLen) (hld:D.length<=maxLen) (hsa:0<S.length->sa=some ⟨sb,so,none⟩) (hda:0<D.length->da=some ⟨db,dO,none⟩) (PS:z5z w sb so S) (PD:z1b w db dO D)
  (hg:z0m k i v n S D≠0) :
  Calls prog 122 #[.agg #[.int .i64 k,.int .i64 i,.int .i64 v,.int .i64 n,.slice sa S.length cs,.slice da D.length cd]] w fun e w'=>e=.returned (.tuple #[.string ⟨#[]⟩,.int .i64 (z0m k i v n S D)])/\Below w.heap.size w w':=by
 have hgood:=z0o k i v n S D sa da cs cd sb so db dO _ hls hld hsa hda (PS.later (z0v w (.cells #[.int .i64 k,.int .i64 i,.int .i64 v,.int .i64 n,.slice sa S.length cs,.slice da D.length cd] 70))) (PD.later (z0v _ _));generalize z0m k i v n S D=G at *;have hG:(G != 0)=true:=by simpa using hg
 have HG:=hgood;clear hgood PS PD hls hld hsa hda hg
 go_enter func122,ntmps122
 go_wp2_with (go_at_call 34;refine HG.mono ?_;rintro e w1⟨rfl,hb⟩)
 go_ret2;exact⟨rfl,z2S hb⟩
def z5h(p:Int×Int):List Int:=be p.1 1 ++ be p.2 7
def q4j(k i v n:Int)(ls:Nat):List Int:=be k 1 ++ be i 6 ++ be v 1 ++ be n 7 ++ be ls 1
def enc(k i v n:Int)(S:List (Int×Int))(D:List Int):List Int:=
 q4j k i v n S.length ++ S.flatMap z5h ++ be D.length 1 ++ D.flatMap (be · 1)
theorem q2E(p:Int×Int):(z5h p).length=8:=by simp[z5h,z0F]
theorem z4H(S:List (Int×Int)):(S.flatMap z5h).length=8 * S.length:=by
 induction S with
 | nil=>rfl
 | cons a t ih=>rw[List.flatMap_cons,List.length_append,ih,q2E,List.length_cons];omega
theorem z7c(D:List Int):(D.flatMap (be · 1)).length=D.length:=by
 induction D with
 | nil=>rfl
 | cons a t ih=>rw[List.flatMap_cons,List.length_append,ih,z0F,List.length_cons];omega
theorem z3p(k i v n:Int)(ls:Nat):(q4j k i v n ls).length=16:=by simp[q4j,z0F]
theorem q6y(k i v n:Int)(S:List (Int×Int))(D:List Int):(enc k i v n S D).length=17+8 * S.length+D.length:=by
 simp only[enc,List.length_append,z3p,z4H,z7c,z0F];omega
theorem q1l{α:Type}(f:α->List Int)(l:List α)(d:α)(m:Nat)(h:m<l.length):(l.take (m+1)).flatMap f=(l.take m).flatMap f ++ f (l.getD m d):=by
 rw[List.take_succ_eq_append_getElem h,List.flatMap_append,List.flatMap_singleton]
 simp[List.getD,h]
theorem take_len{α:Type}(l:List α)(m:Nat):(l.take m).length<=l.length:=by simp;omega
theorem Row.keeps{w w':World}{B:Nat}{v:Value}{xs:List Int}{o:Obj}(h:Row w B v xs)(hg:(w.alloc o).grownBy w' v.ownBlock):w'.heap[w.heap.size]?=(w.alloc o).heap[w.heap.size]?:=
 hg.block _ (by simp) (fun e=>by have:=(World.ownsRow.lt h _ e.symm).2;omega)
theorem cell_of_heap{w w':World}{b:Nat}(h:w'.heap[b]?=w.heap[b]?)(o:Nat):w'.cell? ⟨b,o,none⟩=w.cell? ⟨b,o,none⟩:=World.cell?_of_block (w:=w) (a:=⟨b,o,none⟩) h
theorem Row.conv{w:World}{B:Nat}{v:Value}{E:List Int}(h:Row w B v E):(convert 232 9 v).run prog w=.ok (.string (strOfNums E)) w:=by
 rcases h.2 with⟨rfl,h0⟩ | ⟨g,cap,cur,rfl,hb,hh,hn,hm,hs,ht⟩
 ·have:E=[]:=List.eq_nil_of_length_eq_zero h0;subst this;exact run_convert_bytes_nil (P:=prog) w 232 5 underlying232 underlying5 0 0 9 underlying9
 ·refine run_convert_bytes_arg (P:=prog) w 232 5 underlying232 underlying5 g 0 E.length cap E rfl (fun j hj=>?_) 9 underlying9;have h':w.ownsRow B 5 1 (.slice (some ⟨g,0,none⟩) E.length cap) E.length (E.map (Value.int .u8)):=h;rw[Nat.zero_add,h'.cellAt j (by omega)]
  simp[List.getD,hj]
theorem z5z.z4L{w w':World}{B b off:Nat}{l:List (Int×Int)}(h:z5z w b off l)(hb:Below B w w')(hB:0<l.length->b<B):z5z w' b off l:=fun i hi =>
 ⟨(hb.cell (p:=⟨b,off+i * 2,none⟩) (hB (by omega))).trans (h i hi).1,(hb.cell (p:=⟨b,off+i * 2+1,none⟩) (hB (by omega))).trans (h i hi).2⟩
theorem z1b.z4L{w w':World}{B b off:Nat}{l:List Int}(h:z1b w b off l)(hb:Below B w w')(hB:0<l.length->b<B):z1b w' b off l:=fun i hi =>
 (hb.cell (p:=⟨b,off+i,none⟩) (hB (by omega))).trans (h i hi)
theorem z5z.lt{w:World}{b off:Nat}{l:List (Int×Int)}(h:z5z w b off l)(hl:0<l.length):b<w.heap.size:=World.block_lt_of_cell? w _ (h 0 hl).1
theorem z1b.lt{w:World}{b off:Nat}{l:List Int}(h:z1b w b off l)(hl:0<l.length):b<w.heap.size:=World.block_lt_of_cell? w _ (h 0 hl)
theorem z3W(B:Nat)(v:Value)(xs:List Int)(n wi:Int)(wd:Nat)(w:World)(hwi:wi=(wd:Int))(hown:Row w B v xs)(hwd:wd<=7)(hlen:xs.length+wd<=1000000)(hB:B<=w.heap.size) :
  Calls prog 162 #[v,.int .i64 n,.int .i64 wi] w fun e w'=>∃ v',e=.returned v'/\Row w' B v' (xs ++ be n wd)/\w.grownBy w' v.ownBlock/\At w v v':=by
 subst hwi;exact z8e B v xs n wd w hown hwd hlen hB
theorem q9W(k i v n:Int)(S:List (Int×Int))(D:List Int)(sa da:Option Addr)(cs cd sb so db dO:Nat)(w:World)
  (hls:S.length<=maxLen) (hld:D.length<=maxLen) (hsa:0<S.length->sa=some ⟨sb,so,none⟩) (hda:0<D.length->da=some ⟨db,dO,none⟩) (PS:z5z w sb so S) (PD:z1b w db dO D)
  (hg:z0m k i v n S D=0) :
  Calls prog 122 #[.agg #[.int .i64 k,.int .i64 i,.int .i64 v,.int .i64 n,.slice sa S.length cs,.slice da D.length cd]] w fun e w'=>e=.returned (.tuple #[.string (strOfNums (enc k i v n S D)),.int .i64 0])/\Below w.heap.size w w':=by
 obtain⟨_,_,hS6,hD6⟩:=z9g hg;have hsb:=fun h=>PS.lt h;have hdb:=fun h=>PD.lt h;have hgood:=z0o k i v n S D sa da cs cd sb so db dO _ hls hld hsa hda (PS.later (z0v w (.cells #[.int .i64 k,.int .i64 i,.int .i64 v,.int .i64 n,.slice sa S.length cs,.slice da D.length cd] 70))) (PD.later (z0v _ _));rw[hg]at hgood;have HSB:Hid (0<S.length->sb<w.heap.size+1):=fun h=>Nat.lt_succ_of_lt (hsb h);have HDB:Hid (0<D.length->db<w.heap.size+1):=fun h=>Nat.lt_succ_of_lt (hdb h);have HSA:Hid (0<S.length->sa=some ⟨sb,so,none⟩):=hsa;have HDA:Hid (0<D.length->da=some ⟨db,dO,none⟩):=hda;clear hls hld hsa hda hg hsb hdb
 go_enter func122,ntmps122
 go_wp2_with fail
 refine hgood.mono ?_;rintro e w1⟨rfl,hb1⟩;clear hgood;have PK1:j7E w1 w.heap.size k i v n (.slice sa S.length cs) (.slice da D.length cd):=(q3s _ _ _ _ _ _ _).later hb1 (by simp)
 have HB1:Hid (Below w.heap.size w w1):=z2S hb1;have PS1:=PS.later HB1.out;have PD1:=PD.later HB1.out;have hz1:w.heap.size+1<=w1.heap.size:=(by have:=hb1.size;simpa using this)
 have hr1:Row w1 (w.heap.size+1) (.slice none 0 0) []:=World.ownsRow_nil _ _ _ _;clear hb1 PS PD;obtain⟨c0,c1,c2,c3,c4,c5⟩:=id PK1
 go_wp2_with fail
 refine (z3W (w.heap.size+1) _ [] _ 1 1 _ rfl hr1 (by omega) (by simp) hz1).mono ?_
 rintro e w2⟨v2,rfl,hr2,hg2,_⟩;have HB2:Hid (Below (w.heap.size+1) w1 w2):=hr1.below (Below.refl _ _) hz1 hg2;clear c0 c1 c2 c3 c4 c5 hg2 hr1;have PK2:=PK1.later HB2.out (Nat.lt_succ_self _);obtain⟨c0,c1,c2,c3,c4,c5⟩:=id PK2;have hz2:w.heap.size+1<=w2.heap.size:=Nat.le_trans hz1 HB2.out.size;rw[List.nil_append]at hr2
 go_wp2_with fail
 refine (z3W (w.heap.size+1) _ _ _ 6 6 _ rfl hr2 (by omega) (by simp[z0F]) hz2).mono ?_
 rintro e w3⟨v3,rfl,hr3,hg3,_⟩;have HB3:Hid (Below (w.heap.size+1) w1 w3):=hr2.below HB2.out hz1 hg3;clear c0 c1 c2 c3 c4 c5 hg3 hr2 HB2 PK2;have PK3:=PK1.later HB3.out (Nat.lt_succ_self _);obtain⟨c0,c1,c2,c3,c4,c5⟩:=id PK3;have hz3:w.heap.size+1<=w3.heap.size:=Nat.le_trans hz1 HB3.out.size
 go_wp2_with fail
 refine (z3W (w.heap.size+1) _ _ _ 1 1 _ rfl hr3 (by omega) (by simp[z0F]) hz3).mono ?_
 rintro e w4⟨v4,rfl,hr4,hg4,_⟩;have HB4:Hid (Below (w.heap.size+1) w1 w4):=hr3.below HB3.out hz1 hg4;clear c0 c1 c2 c3 c4 c5 hg4 hr3 HB3 PK3;have PK4:=PK1.later HB4.out (Nat.lt_succ_self _);obtain⟨c0,c1,c2,c3,c4,c5⟩:=id PK4;have hz4:w.heap.size+1<=w4.heap.size:=Nat.le_trans hz1 HB4.out.size
 go_wp2_with fail
 refine (z3W (w.heap.size+1) _ _ _ 7 7 _ rfl hr4 (by omega) (by simp[z0F]) hz4).mono ?_
 rintro e w5⟨v5,rfl,hr5,hg5,_⟩;have HB5:Hid (Below (w.heap.size+1) w1 w5):=hr4.below HB4.out hz1 hg5;clear c0 c1 c2 c3 c4 c5 hg5 hr4 HB4 PK4;have PK5:=PK1.later HB5.out (Nat.lt_succ_self _);obtain⟨c0,c1,c2,c3,c4,c5⟩:=id PK5;have hz5:w.heap.size+1<=w5.heap.size:=Nat.le_trans hz1 HB5.out.size
 go_wp2_with fail
 refine (z3W (w.heap.size+1) _ _ _ 1 1 _ rfl hr5 (by omega) (by simp[z0F]) hz5).mono ?_
 rintro e w6⟨v6,rfl,hr6,hg6,_⟩;have HB6:Hid (Below (w.heap.size+1) w1 w6):=hr5.below HB5.out hz1 hg6;clear c0 c1 c2 c3 c4 c5 hg6 hr5 HB5 PK5;have PK6:=PK1.later HB6.out (Nat.lt_succ_self _);obtain⟨c0,c1,c2,c3,c4,c5⟩:=id PK6;clear hz2 hz3 hz4 hz5;have HR6:Hid (Row w6 (w.heap.size+1) v6 (q4j k i v n S.length)):=hr6;clear hr6
 go_wp2_with fail
 clear c0 c1 c2 c3 c4 c5 PK6
 go_loopw [5,39] (fun u j wl=>∃ m:Nat,m<=S.length/\j=.int .i64 m/\Hid (Row wl (w.heap.size+1) u (q4j k i v n S.length ++ (S.take m).flatMap z5h))/\Hid (Below (w.heap.size+1) w1 wl)) (fun _ j _=>S.length - (intOf j).toNat)
 case atStart=>exact⟨0,Nat.zero_le _,rfl,by simpa using HR6,HB6⟩
 case round =>
  obtain⟨m,hm,rfl,HR,HB⟩:=hrel;clear HR6 HB6;have hzr:w.heap.size+1<=wr.heap.size:=Nat.le_trans hz1 HB.out.size;have hlt8:((S.take m).flatMap z5h).length<=48:=by rw[z4H];have:=take_len S m;omega
  by_cases hlt:m<S.length
  ·have hcell:=PS1.z4L HB.out HSB.out m hlt;have htk:=q1l z5h S (0,0) m hlt;obtain⟨y,hy⟩:∃ y,S.getD m (0,0)=y:=⟨_,rfl⟩;rw[hy]at hcell htk;obtain⟨y,z⟩:=y;obtain⟨hc0,hc1⟩:=hcell;dsimp only at hc0 hc1;have e:=HSA.out (by omega)
   subst e;have HT:Hid _:=htk;clear htk hy
   go_wp2_with fail
   have hrA:Row (wr.alloc (Obj.cells #[Value.int IntKind.i64 y,Value.int IntKind.i64 z] 68)) (w.heap.size+1) u5 (q4j k i v n S.length ++ (S.take m).flatMap z5h):=World.ownsRow.alloc HR.out _;have HBA:Hid (Below (w.heap.size+1) w1 (wr.alloc (Obj.cells #[Value.int IntKind.i64 y,Value.int IntKind.i64 z] 68))):=HB.out.alloc hzr _;refine (z3W (w.heap.size+1) _ _ _ 1 1 _ rfl hrA (by omega) (by simp only[List.length_append,z3p];omega) (by simp;omega)).mono ?_
   rintro e wa⟨va,rfl,hra,hga,_⟩;have hk:=HR.out.keeps hga;have hd1:wa.cell? ⟨wr.heap.size,1,none⟩=some (.int .i64 z):=by rw[cell_of_heap hk];simp[World.cell?_alloc_at]
   have HBa:Hid (Below (w.heap.size+1) w1 wa):=hrA.below HBA.out hz1 hga;have hza:w.heap.size+1<=wa.heap.size:=Nat.le_trans hz1 HBa.out.size;clear hk hga hrA HBA hc0 hc1
   go_wp2_with fail
   refine (z3W (w.heap.size+1) _ _ _ 7 7 _ rfl hra (by omega) (by simp only[List.length_append,z3p,z0F];omega) hza).mono ?_
   rintro e wb⟨vb,rfl,hrb,hgb,_⟩;have HBb:Hid (Below (w.heap.size+1) w1 wb):=hra.below HBa.out hz1 hgb
   have HRb:Hid (Row wb (w.heap.size+1) vb (q4j k i v n S.length ++ (S.take (m+1)).flatMap z5h)):=by
    show Row _ _ _ _
    rw[HT.out,z5h,← List.append_assoc,← List.append_assoc];exact hrb
   clear hra hrb hgb hd1;go_wp2;go_roundw
   case rel=>exact⟨m+1,by omega,by go_num,HRb,HBb⟩
   case measure=>simp[intOf];omega
  ·have hmS:m=S.length:=by omega
   subst hmS;have hr7:Row wr (w.heap.size+1) u5 (q4j k i v n S.length ++ S.flatMap z5h):=by have:=HR.out;rwa [List.take_length]at this
   have PK7:=PK1.later HB.out (Nat.lt_succ_self _);obtain⟨c0,c1,c2,c3,c4,c5⟩:=id PK7;have hl8:(S.flatMap z5h).length<=48:=by rw[z4H];omega
   clear hlt8 HR PK7
   go_wp2_with fail
   refine (z3W (w.heap.size+1) _ _ _ 1 1 _ rfl hr7 (by omega) (by simp only[List.length_append,z3p];omega) hzr).mono ?_
   rintro e w8⟨v8,rfl,hr8,hg8,_⟩;have HB8:Hid (Below (w.heap.size+1) w1 w8):=hr7.below HB.out hz1 hg8;clear c0 c1 c2 c3 c4 c5 hg8 hr7 hlt hm HB;have PK8:=PK1.later HB8.out (Nat.lt_succ_self _);obtain⟨c0,c1,c2,c3,c4,c5⟩:=id PK8;have HR8:Hid (Row w8 (w.heap.size+1) v8 (q4j k i v n S.length ++ S.flatMap z5h ++ be D.length 1)):=hr8;clear hr8
   go_wp2_with fail
   clear c0 c1 c2 c3 c4 c5 PK8
   go_loopw [5,60] (fun u j wl=>∃ m:Nat,m<=D.length/\j=.int .i64 m/\Hid (Row wl (w.heap.size+1) u (q4j k i v n S.length ++ S.flatMap z5h ++ be D.length 1 ++ (D.take m).flatMap (be · 1)))/\Hid (Below (w.heap.size+1) w1 wl)) (fun _ j _=>D.length - (intOf j).toNat)
   case atStart=>exact⟨0,Nat.zero_le _,rfl,by simpa using HR8,HB8⟩
   case round =>
    obtain⟨m,hm,rfl,HR,HB⟩:=hrel;clear HR8 HB8;have hzr:w.heap.size+1<=wr.heap.size:=Nat.le_trans hz1 HB.out.size;have hltm:((D.take m).flatMap (be · 1)).length<=6:=by rw[z7c];have:=take_len D m;omega
    by_cases hlt:m<D.length
    ·have hcell:=PD1.z4L HB.out HDB.out m hlt;have htk:=q1l (be · 1) D 0 m hlt;obtain⟨y,hy⟩:∃ y,D.getD m 0=y:=⟨_,rfl⟩;rw[hy]at hcell htk;have e:=HDA.out (by omega)
     subst e;have HT:Hid _:=htk;clear htk hy
     go_wp2_with fail
     refine (z3W (w.heap.size+1) _ _ _ 1 1 _ rfl HR.out (by omega) (by simp only[List.length_append,z3p,z0F];omega) hzr).mono ?_
     rintro e wb⟨vb,rfl,hrb,hgb,_⟩;have HBb:Hid (Below (w.heap.size+1) w1 wb):=HR.out.below HB.out hz1 hgb
     have HRb:Hid (Row wb (w.heap.size+1) vb (q4j k i v n S.length ++ S.flatMap z5h ++ be D.length 1 ++ (D.take (m+1)).flatMap (be · 1))):=by
      show Row _ _ _ _
      rw[HT.out,← List.append_assoc];exact hrb
     clear hrb hgb hcell;go_wp2;go_roundw
     case rel=>exact⟨m+1,by omega,by go_num,HRb,HBb⟩
     case measure=>simp[intOf];omega
    ·have hmD:m=D.length:=by omega
     subst hmD;have hr9:Row wr (w.heap.size+1) u5 (enc k i v n S D):=by have:=HR.out;rwa [List.take_length]at this
     have HF:Hid (Below w.heap.size w wr):=HB1.out.trans (HB.out.mono (Nat.le_succ _));have hcv:=hr9.conv
     clear hr9 HR HB;go_wp2;go_ret2;exact⟨rfl,HF.out⟩
end Cd
section
open Go.RowKit
theorem j2S(g cap:Nat)(l:List Pw)(w:World)(h:z1V w g l)(hn:l.length<=12) :
  Calls prog 179 #[.slice (some ⟨g,0,none⟩) l.length cap,.int .i64 0,.int .i64 (l.length:Int),.func (.func 118) #[] #[]] w fun e w'=>e=.returned (.tuple #[])/\z1V w' g (z2G ltP l)/\z3f g w w':=by
 have HR0:=hide h;clear h
 go_enter func179,ntmps179
 go_wp2
 go_loopw [8] (fun i wl=>∃ m:Nat,i=.int .i64 ((m:Int)+1)/\(m+1<=l.length∨m=0)/\Hid (z1V wl g (z1r ltP l m)/\z3f g w wl)) (fun i _=>l.length - (intOf i).toNat)
 case atStart=>exact⟨0,rfl,.inr rfl,HR0.out,z3f.refl _ _⟩
 case round =>
  obtain⟨m,rfl,hm,HR⟩:=hrel
  by_cases hlt:m+1<l.length
  ·rename World=>wo
   have hlt':(m:Int)+1<(l.length:Int):=by omega
   go_wp2_with fail
   go_loopw [9] (fun j wl=>∃ (p:Nat) (l':List Pw),j=.int .i64 (p:Int)/\p<=m+1/\l'.length=l.length/\Hid (z8w ltP (m+1) (z1r ltP l m)=z8w ltP p l'/\z1V wl g l'/\z3f g w wl)) (fun j _=>(intOf j).toNat)
   case atStart=>exact⟨m+1,z1r ltP l m,by go_num,Nat.le_refl _,z2a _ _ _,rfl,HR.out⟩
   case round =>
    obtain⟨p,l',rfl,hp,hl',HI⟩:=hrel;have hsz:w.heap.size<=wr.heap.size:=HI.out.2.2.size;cases p with
    | zero =>
     have hg0:decide ((0:Int)<0)=false:=by decide
     go_upto_region 4 with fail
     go_quiet (fail);go_wp2;go_roundw
     case rel=>exact⟨m+1,by go_num,.inl (by omega),(by rw[z1r,HI.out.1];exact HI.out.2.1),(show z3f g w (wr.drewN nq) from HI.out.2.2.drewN nq)⟩
     case measure=>simp[intOf];omega
    | succ p =>
     have hp1:p+1<l'.length:=by omega
     obtain⟨c0,c1⟩:=HI.out.2.1.cell (i:=p+1) hp1;obtain⟨d0,d1⟩:=HI.out.2.1.cell (i:=p) (by omega)
     have hC:=q2b (l'.getD (p+1) pz) (l'.getD p pz);have hgl:=HI.out.2.1.lt;have HI1:Hid (z8w ltP (m+1) (z1r ltP l m)=if ltP (l'.getD (p+1) pz) (l'.getD p pz)=true then z8w ltP p (swapAt l' p) else l'):=HI.out.1;have hlt2:Hid (ltP (l'.getD (p+1) pz) (l'.getD p pz)=decide (j7I (l'.getD (p+1) pz) (l'.getD p pz)<0)):=rfl;have HRow:=hide HI.out.2;clear HI;generalize j7I (l'.getD (p+1) pz) (l'.getD p pz)=r at *;generalize hA:l'.getD (p+1) pz=A at *;generalize hB:l'.getD p pz=B at *;have HA:=hide hA;have HB:=hide hB;clear hA hB;have hw1:IntKind.i64.wrap (((p+1:Nat):Int) - 1)=(p:Int):=by rw[show ((p+1:Nat):Int) - 1=(p:Int) by omega];exact z6D (by omega) (by omega)
     generalize hq:p+1=q at *;have HQ:=hide hq;clear hq;have hq0:(0:Int)<=(q:Int):=by omega
     have hq1:(q:Int)<(l.length:Int):=by omega
     have hp0:(0:Int)<=(p:Int):=by omega
     have hp2:(p:Int)<(l.length:Int):=by have:=HQ.out;omega
     have hg0:decide (0<q)=true:=by have:=HQ.out;simp;omega
     go_upto_region 4 with fail
     go_region_held3 (fun wx=>wx.cell? ⟨g,q * 2,none⟩=some (.int .i64 A.1)/\wx.cell? ⟨g,q * 2+1,none⟩=some (.int .i64 A.2)/\wx.cell? ⟨g,p * 2,none⟩=some (.int .i64 B.1)/\wx.cell? ⟨g,p * 2+1,none⟩=some (.int .i64 B.2)) (first | go_keep | (refine⟨?_,?_,?_,?_⟩ <;> (rw[hbC.cell hgl];simp[*])))
      (first | (go_at_call 118;refine (hC _).mono ?_;rintro e w1⟨rfl,hbC⟩))
     rename_i hh;obtain⟨c0',c1',d0',d1'⟩:=hh;have hR1:=HRow.out.1.later (w':=w1) (show Below wr.heap.size wr w1 from ((Below.refl _ wr).drew.trans hbC));have hB1:z3f g w w1:=HRow.out.2.trans (z3f.of_below (show Below wr.heap.size wr w1 from ((Below.refl _ wr).drew.trans hbC)));have HR1:=hide hR1;have HB1:=hide hB1;have f0:=hR1.free (q * 2);have f1:=hR1.free (q * 2+1);have f2:=hR1.free (p * 2);have f3:=hR1.free (p * 2+1);clear hR1 hB1 hbC c0 c1 d0 d1 HRow hC
     by_cases hr:r<0
     ·have hd:decide (r<0)=true:=by simpa using hr
      rw[hd];have hqp:=HQ.out;have n1:¬ p=q:=by omega
      have n2:¬ q=p:=by omega
      have n3:¬ p * 2=q * 2+1:=by omega
      have n4:¬ q * 2=p * 2+1:=by omega
      have n5:¬ p * 2+1=q * 2:=by omega
      have n6:¬ q * 2+1=p * 2:=by omega
      have n7:¬ p * 2=q * 2:=by omega
      have n8:¬ q * 2=p * 2:=by omega
      clear hqp
      go_upto_region 6 with fail
      go_region;have hsw:(l'.set q B).set p A=swapAt l' p:=by rw[swapAt,HQ.out,HA.out,HB.out]
      have HR2:Hid (z1V (((((w1.setCell ⟨g,q * 2,none⟩ (.int .i64 B.1)).setCell ⟨g,q * 2+1,none⟩ (.int .i64 B.2)).setCell ⟨g,p * 2,none⟩ (.int .i64 A.1)).setCell ⟨g,p * 2+1,none⟩ (.int .i64 A.2)).drew) g (swapAt l' p)):=by
       rw[← hsw];exact (HR1.out.put hp1 B).put (by simp;omega) A
      have HB2:Hid (z3f g w (((((w1.setCell ⟨g,q * 2,none⟩ (.int .i64 B.1)).setCell ⟨g,q * 2+1,none⟩ (.int .i64 B.2)).setCell ⟨g,p * 2,none⟩ (.int .i64 A.1)).setCell ⟨g,p * 2+1,none⟩ (.int .i64 A.2)).drew)):=((((HB1.out.set _ _).set _ _).set _ _).set _ _).drew;have HE:Hid (z8w ltP (m+1) (z1r ltP l m)=z8w ltP p (swapAt l' p)):=by rw[HI1.out,hlt2.out,hd];exact if_pos rfl
      clear hsw;generalize ((((w1.setCell ⟨g,q * 2,none⟩ (.int .i64 B.1)).setCell ⟨g,q * 2+1,none⟩ (.int .i64 B.2)).setCell ⟨g,p * 2,none⟩ (.int .i64 A.1)).setCell ⟨g,p * 2+1,none⟩ (.int .i64 A.2)).drew=w2 at *;go_wp2;go_roundw
      case rel=>exact⟨p,swapAt l' p,rfl,by have:=HQ.out;omega,(by rw[z3o];exact hl'),HE.out,HR2.out,HB2.out⟩
      case measure=>have:=HQ.out;simp[intOf];omega
     ·have hd:decide (r<0)=false:=by simpa using hr
      rw[hd];have HE:Hid (z8w ltP (m+1) (z1r ltP l m)=l'):=by rw[HI1.out,hlt2.out,hd];exact if_neg (by simp)
      go_wp2;go_roundw
      case rel=>exact⟨m+1,by go_num,.inl (by omega),(by rw[z1r,HE.out];exact HR1.out),HB1.out⟩
      case measure=>simp[intOf];omega
  ·have hE:z2G ltP l=z1r ltP l m:=by
    unfold z2G
    rcases hm with h | rfl
    ·rw[show l.length - 1=m by omega]
    ·rcases (show l.length=0∨l.length=1 by omega) with h | h <;> rw[h]
   have HE:=hide hE;clear hE;go_wp2;go_end0;exact⟨rfl,by rw[HE.out];exact HR.out.1,HR.out.2⟩
theorem j3n(g cap:Nat)(l:List Pw)(w:World)(h:z1V w g l)(hn:l.length<=12) :
  Calls prog 179 #[.slice (some ⟨g,0,none⟩) l.length cap,.int .i64 0,.int .i64 (l.length:Int),.func (.func 119) #[] #[]] w fun e w'=>e=.returned (.tuple #[])/\z1V w' g (z2G ltV l)/\z3f g w w':=by
 have HR0:=hide h;clear h
 go_enter func179,ntmps179
 go_wp2
 go_loopw [8] (fun i wl=>∃ m:Nat,i=.int .i64 ((m:Int)+1)/\(m+1<=l.length∨m=0)/\Hid (z1V wl g (z1r ltV l m)/\z3f g w wl)) (fun i _=>l.length - (intOf i).toNat)
 case atStart=>exact⟨0,rfl,.inr rfl,HR0.out,z3f.refl _ _⟩
 case round =>
  obtain⟨m,rfl,hm,HR⟩:=hrel
  by_cases hlt:m+1<l.length
  ·rename World=>wo
   have hlt':(m:Int)+1<(l.length:Int):=by omega
   go_wp2_with fail
   go_loopw [9] (fun j wl=>∃ (p:Nat) (l':List Pw),j=.int .i64 (p:Int)/\p<=m+1/\l'.length=l.length/\Hid (z8w ltV (m+1) (z1r ltV l m)=z8w ltV p l'/\z1V wl g l'/\z3f g w wl)) (fun j _=>(intOf j).toNat)
   case atStart=>exact⟨m+1,z1r ltV l m,by go_num,Nat.le_refl _,z2a _ _ _,rfl,HR.out⟩
   case round =>
    obtain⟨p,l',rfl,hp,hl',HI⟩:=hrel;have hsz:w.heap.size<=wr.heap.size:=HI.out.2.2.size;cases p with
    | zero =>
     have hg0:decide ((0:Int)<0)=false:=by decide
     go_upto_region 4 with fail
     go_quiet (fail);go_wp2;go_roundw
     case rel=>exact⟨m+1,by go_num,.inl (by omega),(by rw[z1r,HI.out.1];exact HI.out.2.1),(show z3f g w (wr.drewN nq) from HI.out.2.2.drewN nq)⟩
     case measure=>simp[intOf];omega
    | succ p =>
     have hp1:p+1<l'.length:=by omega
     obtain⟨c0,c1⟩:=HI.out.2.1.cell (i:=p+1) hp1;obtain⟨d0,d1⟩:=HI.out.2.1.cell (i:=p) (by omega)
     have hC:=z6W (l'.getD (p+1) pz) (l'.getD p pz);have hgl:=HI.out.2.1.lt;have HI1:Hid (z8w ltV (m+1) (z1r ltV l m)=if ltV (l'.getD (p+1) pz) (l'.getD p pz)=true then z8w ltV p (swapAt l' p) else l'):=HI.out.1;have hlt2:Hid (ltV (l'.getD (p+1) pz) (l'.getD p pz)=decide (j3y (l'.getD (p+1) pz) (l'.getD p pz)<0)):=rfl;have HRow:=hide HI.out.2;clear HI;generalize j3y (l'.getD (p+1) pz) (l'.getD p pz)=r at *;generalize hA:l'.getD (p+1) pz=A at *;generalize hB:l'.getD p pz=B at *;have HA:=hide hA;have HB:=hide hB;clear hA hB;have hw1:IntKind.i64.wrap (((p+1:Nat):Int) - 1)=(p:Int):=by rw[show ((p+1:Nat):Int) - 1=(p:Int) by omega];exact z6D (by omega) (by omega)
     generalize hq:p+1=q at *;have HQ:=hide hq;clear hq;have hq0:(0:Int)<=(q:Int):=by omega
     have hq1:(q:Int)<(l.length:Int):=by omega
     have hp0:(0:Int)<=(p:Int):=by omega
     have hp2:(p:Int)<(l.length:Int):=by have:=HQ.out;omega
     have hg0:decide (0<q)=true:=by have:=HQ.out;simp;omega
     go_upto_region 4 with fail
     go_region_held3 (fun wx=>wx.cell? ⟨g,q * 2,none⟩=some (.int .i64 A.1)/\wx.cell? ⟨g,q * 2+1,none⟩=some (.int .i64 A.2)/\wx.cell? ⟨g,p * 2,none⟩=some (.int .i64 B.1)/\wx.cell? ⟨g,p * 2+1,none⟩=some (.int .i64 B.2)) (first | go_keep | (refine⟨?_,?_,?_,?_⟩ <;> (rw[hbC.cell hgl];simp[*])))
      (first | (go_at_call 119;refine (hC _).mono ?_;rintro e w1⟨rfl,hbC⟩))
     rename_i hh;obtain⟨c0',c1',d0',d1'⟩:=hh;have hR1:=HRow.out.1.later (w':=w1) (show Below wr.heap.size wr w1 from ((Below.refl _ wr).drew.trans hbC));have hB1:z3f g w w1:=HRow.out.2.trans (z3f.of_below (show Below wr.heap.size wr w1 from ((Below.refl _ wr).drew.trans hbC)));have HR1:=hide hR1;have HB1:=hide hB1;have f0:=hR1.free (q * 2);have f1:=hR1.free (q * 2+1);have f2:=hR1.free (p * 2);have f3:=hR1.free (p * 2+1);clear hR1 hB1 hbC c0 c1 d0 d1 HRow hC
     by_cases hr:r<0
     ·have hd:decide (r<0)=true:=by simpa using hr
      rw[hd];have hqp:=HQ.out;have n1:¬ p=q:=by omega
      have n2:¬ q=p:=by omega
      have n3:¬ p * 2=q * 2+1:=by omega
      have n4:¬ q * 2=p * 2+1:=by omega
      have n5:¬ p * 2+1=q * 2:=by omega
      have n6:¬ q * 2+1=p * 2:=by omega
      have n7:¬ p * 2=q * 2:=by omega
      have n8:¬ q * 2=p * 2:=by omega
      clear hqp
      go_upto_region 6 with fail
      go_region;have hsw:(l'.set q B).set p A=swapAt l' p:=by rw[swapAt,HQ.out,HA.out,HB.out]
      have HR2:Hid (z1V (((((w1.setCell ⟨g,q * 2,none⟩ (.int .i64 B.1)).setCell ⟨g,q * 2+1,none⟩ (.int .i64 B.2)).setCell ⟨g,p * 2,none⟩ (.int .i64 A.1)).setCell ⟨g,p * 2+1,none⟩ (.int .i64 A.2)).drew) g (swapAt l' p)):=by
       rw[← hsw];exact (HR1.out.put hp1 B).put (by simp;omega) A
      have HB2:Hid (z3f g w (((((w1.setCell ⟨g,q * 2,none⟩ (.int .i64 B.1)).setCell ⟨g,q * 2+1,none⟩ (.int .i64 B.2)).setCell ⟨g,p * 2,none⟩ (.int .i64 A.1)).setCell ⟨g,p * 2+1,none⟩ (.int .i64 A.2)).drew)):=((((HB1.out.set _ _).set _ _).set _ _).set _ _).drew;have HE:Hid (z8w ltV (m+1) (z1r ltV l m)=z8w ltV p (swapAt l' p)):=by rw[HI1.out,hlt2.out,hd];exact if_pos rfl
      clear hsw;generalize ((((w1.setCell ⟨g,q * 2,none⟩ (.int .i64 B.1)).setCell ⟨g,q * 2+1,none⟩ (.int .i64 B.2)).setCell ⟨g,p * 2,none⟩ (.int .i64 A.1)).setCell ⟨g,p * 2+1,none⟩ (.int .i64 A.2)).drew=w2 at *;go_wp2;go_roundw
      case rel=>exact⟨p,swapAt l' p,rfl,by have:=HQ.out;omega,(by rw[z3o];exact hl'),HE.out,HR2.out,HB2.out⟩
      case measure=>have:=HQ.out;simp[intOf];omega
     ·have hd:decide (r<0)=false:=by simpa using hr
      rw[hd];have HE:Hid (z8w ltV (m+1) (z1r ltV l m)=l'):=by rw[HI1.out,hlt2.out,hd];exact if_neg (by simp)
      go_wp2;go_roundw
      case rel=>exact⟨m+1,by go_num,.inl (by omega),(by rw[z1r,HE.out];exact HR1.out),HB1.out⟩
      case measure=>simp[intOf];omega
  ·have hE:z2G ltV l=z1r ltV l m:=by
    unfold z2G
    rcases hm with h | rfl
    ·rw[show l.length - 1=m by omega]
    ·rcases (show l.length=0∨l.length=1 by omega) with h | h <;> rw[h]
   have HE:=hide hE;clear hE;go_wp2;go_end0;exact⟨rfl,by rw[HE.out];exact HR.out.1,HR.out.2⟩
theorem y0j(g cap:Nat)(lim:Int)(l:List Pw)(w:World)(h:z1V w g l)(hn:l.length<=12) :
  Calls prog 158 #[.slice (some ⟨g,0,none⟩) l.length cap,.int .i64 0,.int .i64 (l.length:Int),.int .i64 lim,.func (.func 119) #[] #[]] w fun e w'=>e=.returned (.tuple #[])/\z1V w' g (z2G ltV l)/\z3f g w w':=by
 have hI:=j3n g cap l w h hn;have hn':(l.length:Int)<=12:=by omega
 clear h
 go_enter func158,ntmps158
 go_wp2_with fail
 go_loopw [1,2] (fun a b wl=>a=.int .i64 0/\b=.int .i64 (l.length:Int)/\Hid (wl=w)) (fun _ _ _=>0)
 case atStart=>exact⟨rfl,rfl,rfl⟩
 case round =>
  obtain⟨rfl,rfl,HW⟩:=hrel;have e:=HW.out;subst e;clear HW
  go_wp2_with (go_at_call 179;refine hI.mono ?_;rintro e w1⟨rfl,h1⟩;have H1:=hide h1;clear h1)
  exact bodyPost_ret (v:=.tuple #[]) (by simp[results,results158]) rfl ⟨rfl,H1.out⟩
theorem q8C(n:Nat)(hn:n<=12)(w:World):Calls prog 159 #[.int .u64 (n:Int)] w fun e w'=>(∃ k,e=.returned (.int .i64 k))/\w=w':=by
 have hL:=Ra.j2B n (by omega)
 go_enter func159,ntmps159
 go_wp2_with (go_at_call 188;refine (hL _).mono ?_;rintro e w1⟨rfl,rfl⟩)
 go_ret;exact⟨⟨_,rfl⟩,rfl⟩
theorem q9P(g cap:Nat)(l:List Pw)(w:World)(h:z1V w g l)(hn:l.length<=12) :
  Calls prog 117 #[.slice (some ⟨g,0,none⟩) l.length cap,.func (.func 119) #[] #[]] w fun e w'=>e=.returned (.tuple #[])/\z1V w' g (z2G ltV l)/\z3f g w w':=by
 have hP:=fun lim=>y0j g cap lim l w h hn;have hL:=q8C l.length hn w;clear h
 go_enter func117,ntmps117
 go_wp2_with (first
  | (go_at_call 159;refine hL.mono ?_;rintro e w1⟨⟨k,rfl⟩,rfl⟩)
  | (go_at_call 158;refine (hP _).mono ?_;rintro e w2⟨rfl,h1⟩;have H1:=hide h1;clear h1))
 go_end0;exact⟨rfl,H1.out⟩
end
end Go.Proofs.YtmopekkhmhhcaaaGreat
