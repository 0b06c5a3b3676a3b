/- Parts of the proof: SC PST WTK WPT. -/
import Derived.Test.YtknaapahicaobaaGreatRows
import Derived.Test.YtknaapahicaobaaGreatDK17
import Derived.ChangeOld
set_option maxRecDepth 100000
set_option maxHeartbeats 16000000
namespace Go.Proofs.YtknaapahicaobaaGreat
open Go.Proofs.Tryz
section
open Go.RowKit
theorem j4j{w:World}{b:Nat}{s:St}{sl:Value}(h:SAt w b (stC s sl)):w.rangeAt b 0 (bkC s.b).toList:=by
 intro j v hv;have hj:j<7:=(List.getElem?_eq_some_iff.1 hv).1;rw[h.cell,Nat.zero_add];simp only[stC,stL,List.getElem?_toArray];rw[List.getElem?_append_left (show j<(bkC s.b).toList.length from hj)];exact hv
end
namespace Pv
open Go.RowKit
section
variable {P:Nat->Prop} {w:World} {s:St} {u:Value} (hu:Rep P w u 8 64 (wsL s.W))
include hu
theorem j5o:Calls prog 13 #[.agg (stC s u)] w fun e w'=>e=.returned (.bool (z0k s))/\Below w.heap.size w w':=by
 obtain ⟨A,C,b,o,rfl,W,-,-⟩:=hu.z9U;exact z5k s A b o C w W
end
end Pv
namespace Wd
open Go.RowKit Pv Kc
theorem j8n(p:Pr)(v:PrV)(w:World):(Instr.field 56 (.agg (prC p v)) 2).run prog w=.ok (.agg (stC p.s v.ws)) w:=by kernel_rfl
theorem j6o{b:Bk}(hg:b.good=true)(w:World):Calls prog 12 #[.agg (bkC b)] w fun e w'=>e=.returned (.int .i64 400000)/\Below w.heap.size w w':=by
 refine (q7l b.f0 b.f1 b.f2 b.f3 b.bo b.wa b.bu w).mono ?_;rintro e w' ⟨rfl,h⟩;have:=(z4u b).1 hg;refine ⟨?_,h⟩;rw[show b.f0+b.f1+b.f2+b.f3+b.bo+b.wa+b.bu=400000 by omega,show wrap64 400000=400000 by simp[wrap64]]
def j2M(v:Value):Sem Value:=Instr.loadAt 33 v
theorem q9x(v:Value):Instr.loadAt 33 v=j2M v:=rfl
theorem j8o{w:World}{b:Nat}{s:St}{u:Value}(h:CAt 41 w b (stC s u)):(j2M (.pointer (some ⟨b,0,none⟩))).run prog w=.ok (.agg (bkC s.b)) w:=by
 have:=run_loadAt_mid (P:=prog) w b 0 33 (bkC s.b).toList _ (j4j h) underlying33 rfl (by kernel_rfl)
 change (Instr.loadAt 33 _).run prog w=_
 simpa using this
attribute [local go_sem ↓] q9x z1s z1k
theorem q2y(B g:Nat)(x:Wo)(d:Dd)(rc rn:Int)(w:World)(h:StW B g x w) :
  Calls prog 10 #[.pointer (some ⟨g,0,none⟩),.agg (ddC d),.agg #[.int .i64 rc,.int .i64 rn]] w fun e w'=>e=.returned (.bool true)/\Below w.heap.size w w':=by
 have hgs:z0k x.p.s=true:=h.inv.gp.s;have hgb:=((z0N x.p.s).1 hgs).1;have HP:=hide (fun (wx:World) (hb:Below w.heap.size w wx)=>z3D B g x wx (h.over hb));have HSU:=hide (fun wx=>j6o hgb wx);have HB0:Hid (Below w.heap.size w ((w.alloc (.cells (ddC d) 27)).alloc (.cells #[.int .i64 rc,.int .i64 rn] 30))):=(znw w _).alloc (by simp) _
 have HGS:=hide hgs;clear h hgs hgb
 go_enter func10,ntmps10
 go_upto_region 1 with fail
 generalize (w.alloc (.cells (ddC d) 27)).alloc (.cells #[.int .i64 rc,.int .i64 rn] 30)=w0 at *
 go_upto_region 2 with (go_at_call 11;refine (HP.out _ HB0.out).mono ?_;rintro e w1 ⟨v',rfl,I1,b1⟩;have f2:=j8n x.p v' w1;obtain ⟨A,n,C,hs⟩:∃ A n C,v'.ws=.slice A n C:=(by obtain ⟨A,C,b,o,e,-,-,-⟩:=I1.ws.z9U;exact ⟨_,_,_,e⟩);have R1:CAt 41 (w1.alloc (.cells Z63 41)) w1.heap.size Z63:=CAt.new _ w1 _;have s1:=z5m R1 rfl (z0e x.p.s v'.ws) (z5v x.p.s ⟨A,n,C,hs⟩);have R2:=R1.z0s (ds:=stC x.p.s v'.ws) rfl;have U2:=(((I1.ws.mono (P':=fun b=>b<w1.heap.size) fun b hl _=>hl).over (znw w1 (.cells Z63 41)))).sets (g:=w1.heap.size) (fun h=>by omega) 0 (stC x.p.s v'.ws).toList;have b2:=z0a (b:=w1.heap.size) (zbt HB0.out b1).size (stC x.p.s v'.ws).toList 0 _ ((zbt HB0.out b1).alloc (zbt HB0.out b1).size (.cells Z63 41));unfold Z63 at s1 R2 U2 b2;have HI:=hide (show _/\_/\_ from ⟨R2,U2,b2⟩);clear I1 b1 hs R1 R2 U2 b2)
 change Code.wp prog _ _ _ ((w1.alloc (.cells Z63 41)).setCells w1.heap.size 0 (stC x.p.s v'.ws).toList);have HI2:Hid (CAt 41 ((w1.alloc (.cells Z63 41)).setCells w1.heap.size 0 (stC x.p.s v'.ws).toList) w1.heap.size (stC x.p.s v'.ws)/\Rep (fun b=>b<w1.heap.size) ((w1.alloc (.cells Z63 41)).setCells w1.heap.size 0 (stC x.p.s v'.ws).toList) v'.ws 8 64 (wsL x.p.s.W)/\Below w.heap.size w ((w1.alloc (.cells Z63 41)).setCells w1.heap.size 0 (stC x.p.s v'.ws).toList)):=HI.out;clear HI s1 f2;generalize (w1.alloc (.cells Z63 41)).setCells w1.heap.size 0 (stC x.p.s v'.ws).toList=w2 at *;have l2:=j8o HI2.out.1;have hz2:=HI2.out.1.lt
 go_wp2_with (first
  | (go_at_call 12;refine (HSU.out _).mono ?_;rintro e w3 ⟨rfl,b3⟩;have R3:=HI2.out.1.over b3;have l3:=z5n R3 (z0e _ _);have hz3:=R3.lt;have HG3:=hide (j5o (HI2.out.2.1.over b3));have HB3:=hide (zbt HI2.out.2.2 b3);clear b3 l2 R3)
  | (go_at_call 13;refine HG3.out.mono ?_;rintro e w4 ⟨rfl,b4⟩;rw[HGS.out];have HB4:=hide (zbt HB3.out b4);clear b4))
 go_ret;exact ⟨rfl,HB4.out⟩
end Wd
namespace Wd
open Go.RowKit Pv Kc
attribute [local go_sem ↓] z4d
theorem j1k(A:Option Addr)(C b off:Nat)(l:List Dd)(w:World)(hD:q2A w A b off l) :
  Calls prog 9 #[.slice A l.length C,.func (.func 10) #[] #[]] w fun e w'=>∃ g,e=.returned (.tuple #[.pointer (some ⟨g,0,none⟩),.bool true])/\Below w.heap.size w w':=by
 have HA:=hide (z6e w);have HD:=hide (fun (wx:World) (hb:Below w.heap.size w wx)=>hD.over hb (Nat.le_refl _));clear hD
 go_enter func9,ntmps9
 go_upto_region 3 with (go_at_call 18;refine HA.out.mono ?_;rintro e w1 ⟨rfl,b1⟩;have HB1:=hide b1;clear b1)
 have HN:=hide (z4q w1)
 go_upto_region 4 with (go_at_call 26;refine HN.out.mono ?_;rintro e w2 ⟨g,rfl,h2,b2⟩;have HS2:=hide (show _/\_ from ⟨h2,zbt HB1.out b2⟩);have hg1:=HB1.out.size;have hg2:=h2.le;clear h2 b2)
 go_upto_region 5 with fail
 have HR0:Hid (StW w1.heap.size g (stW l 0) w2/\Below w.heap.size w w2):=HS2.out;clear HS2 HN HA
 go_loopw [7] (fun i wl=>∃ (k:Nat),k<=l.length/\k<=120/\i=.int .i64 (k:Int)/\Hid (StW w1.heap.size g (stW l k) wl/\Below w.heap.size w wl)) (fun i _=>120 - (intOf i).toNat)
 case atStart=>exact ⟨0,Nat.zero_le _,by omega,rfl,HR0⟩
 case round =>
  obtain ⟨k,hk,hk2,rfl,HRR⟩:=hrel;clear HR0
  by_cases hlt:k<l.length/\k<120
  ·obtain ⟨h1,h2⟩:=hlt;have hI1:(k:Int)<(l.length:Int):=by omega
   have hI2:(k:Int)<120:=by omega
   have hx:l[k]?=some l[k]:=List.getElem?_eq_getElem h1;have hst:=z9K hx;generalize l[k]=d at hx hst;have HST:=hide hst;have HDO:=hide (z4N w1.heap.size g (stW l k) d wr HRR.out.1);have ld:=(HD.out wr HRR.out.2).load hx;have hA:A=some ⟨b,off,none⟩:=(HD.out wr HRR.out.2).adr (by omega)
   have HX:=hide hx;subst hA;clear hst hx
   go_upto_region 8 with (go_at_call 21;refine HDO.out.mono ?_;rintro e w3 ⟨rfl,h3,a3⟩;have HS3:=hide (show _/\_ from ⟨h3,a3⟩);clear h3 a3)
   have S4:=HS3.out.1.over (znw w3 (.cells #[.int .i64 (doW (stW l k) d).2.1,.int .i64 (doW (stW l k) d).2.2] 30));have R4:CAt 30 (w3.alloc (.cells #[.int .i64 (doW (stW l k) d).2.1,.int .i64 (doW (stW l k) d).2.2] 30)) w3.heap.size #[.int .i64 (doW (stW l k) d).2.1,.int .i64 (doW (stW l k) d).2.2]:=CAt.new _ w3 _;have B4:Below w.heap.size w (w3.alloc (.cells #[.int .i64 (doW (stW l k) d).2.1,.int .i64 (doW (stW l k) d).2.2] 30)):=(z6a (by omega) HRR.out.2 HS3.out.2).alloc (z6a (by omega) HRR.out.2 HS3.out.2).size _
   rw[← HST.out]at S4;have HS4:=hide (show _/\_/\_ from ⟨S4,B4,R4⟩);clear S4 B4 R4 HS3 HDO HRR ld;generalize (doW (stW l k) d).2.1=rc at *;generalize (doW (stW l k) d).2.2=rn at *;generalize w3.alloc (.cells #[.int .i64 rc,.int .i64 rn] 30)=w4 at *;have hd4:Below w4.heap.size w4 w4.drew:=(Below.refl _ w4).drew;have HT:=hide (q2y w1.heap.size g (stW l (k+1)) d rc rn w4.drew (HS4.out.1.over hd4));have ld4:=(HD.out w4.drew (zbt HS4.out.2.1 hd4)).load HX.out;have r0:w4.cell? ⟨w3.heap.size,0,none⟩=some (.int .i64 rc):=HS4.out.2.2.cell 0;have r1:w4.cell? ⟨w3.heap.size,1,none⟩=some (.int .i64 rn):=HS4.out.2.2.cell 1;have hz4:=HS4.out.2.2.lt;have HD4:=hide hd4;clear hd4
   go_region_with (go_at_call 10;refine HT.out.mono ?_;rintro e w5 ⟨rfl,b5⟩;have HB5:=hide (zbt HD4.out b5);clear b5)
   all_goals (apply_assumption;go_wp2;exact ⟨⟨k+1,by omega,by omega,by go_num,hide ⟨HS4.out.1.over HB5.out,zbt HS4.out.2.1 HB5.out⟩⟩,by simp[intOf];omega⟩)
  ·by_cases h1:k<l.length
   ·obtain rfl:k=120:=by omega
    have hI1:((120:Nat):Int)<(l.length:Int):=by omega
    have hI2:(120:Int)<(l.length:Int):=by omega
    go_wp2;go_ret2
    first
     | exact ⟨g,rfl,HRR.out.2⟩
     | exact ⟨⟨g,rfl⟩,HRR.out.2⟩
   ·have hI1:¬ (k:Int)<(l.length:Int):=by omega
    go_wp2;go_ret2
    first
     | exact ⟨g,rfl,HRR.out.2⟩
     | exact ⟨⟨g,rfl⟩,HRR.out.2⟩
theorem q2o(A:Option Addr)(C b off:Nat)(l:List Dd)(w:World)(hD:q2A w A b off l):Calls prog 3 #[.slice A l.length C] w fun e w'=>e=.returned (.bool true)/\Below w.heap.size w w':=by
 have HP:=hide (j1k A C b off l w hD);clear hD
 go_enter func3,ntmps3
 go_wp2_with (go_at_call 9;refine HP.out.mono ?_;rintro e w1 ⟨g,rfl,b1⟩;have HB:=hide b1;clear b1)
 go_ret;exact ⟨rfl,HB.out⟩
end Wd
end Go.Proofs.YtknaapahicaobaaGreat
