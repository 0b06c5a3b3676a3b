/- Parts of the proof: WI2 WLY WTG WPG. -/
import Derived.Test.YtknaapahicaobaaGreatRows
import Derived.Test.YtknaapahicaobaaGreatDK17
import Derived.ChangeOld
set_option maxRecDepth 100000
set_option maxHeartbeats 16000000
namespace Go.Proofs.YtknaapahicaobaaGreat
open Go.Proofs.Tryz
namespace Wd
open Go.RowKit Pv Kc
theorem j7j(c:Cs):z6t c=true↔GC c:=by
 unfold z6t;simp only[Bool.and_eq_true,decide_eq_true_eq,Bool.not_eq_true',List.all_eq_true,q7H,z4U,z6L]
 constructor
 ·rintro ⟨⟨⟨⟨⟨a,b⟩,c1⟩,d1,d2⟩,e1,e2⟩,⟨⟨f,g⟩,h⟩,i⟩;refine ⟨fun ⟨h1,h2⟩=>?_,b,c1,d1,d2,e1,e2,f,g,fun x hx=>⟨(h x hx).1.1,(h x hx).1.2,(h x hx).2⟩,i⟩;rw[h1,h2]at a;cases a
 ·rintro ⟨a,b,c1,d1,d2,e1,e2,f,g,h,i⟩;refine ⟨⟨⟨⟨⟨?_,b⟩,c1⟩,d1,d2⟩,e1,e2⟩,⟨⟨f,g⟩,fun x hx=>⟨⟨(h x hx).1,(h x hx).2.1⟩,(h x hx).2.2⟩⟩,i⟩;cases h1:c.on
  ·rfl
  ·cases h2:c.gone
   ·rfl
   ·exact absurd ⟨h1,h2⟩ a
noncomputable def j6Y(w:World)(p:Pr)(v:PrV):World:=(w.alloc (.cells zeroCells56 56)).setCells w.heap.size 0 (prC p v).toList
theorem j4b(w:World)(p:Pr)(v:PrV):CAt 56 (j6Y w p v) w.heap.size (prC p v):=(CAt.new 56 w zeroCells56).z0s (by rw[z0d];rfl)
theorem z8A(w:World)(p:Pr)(v:PrV):Below w.heap.size w (j6Y w p v):=z0a (Nat.le_refl _) _ _ _ (znw w _)
theorem q4v{P:Nat->Prop}{w:World}{p:Pr}{v:PrV}(h:PIn P w p v):(z4I (.pointer (some ⟨w.heap.size,0,none⟩)) (.agg (prC p v))).run prog (w.alloc (.cells zeroCells56 56))=.ok () (j6Y w p v):=z0j (CAt.new _ w _) z0d (z0b p v) (z0V h)
noncomputable def j6z(w:World)(c:Cs)(v:CsV):World:=(w.alloc (.cells Z22 66)).setCells w.heap.size 0 (csC c v).toList
theorem j3A(w:World)(c:Cs)(v:CsV):CAt 66 (j6z w c v) w.heap.size (csC c v):=(CAt.new 66 w Z22).z0s (by rw[z0m];rfl)
theorem z5Q(w:World)(c:Cs)(v:CsV):Below w.heap.size w (j6z w c v):=z0a (Nat.le_refl _) _ _ _ (znw w _)
theorem q3P{P:Nat->Prop}{w:World}{c:Cs}{v:CsV}(h:CIn P w c v):(z7t (.pointer (some ⟨w.heap.size,0,none⟩)) (.agg (csC c v))).run prog (w.alloc (.cells Z22 66))=.ok () (j6z w c v):=z1o (CAt.new _ w _) z0m (z0h c v) (z1B h)
def PLd(w0 w:World)(g:Nat)(p:Pr)(v:PrV):Prop:=CAt 56 w g (prC p v)/\PIn (fun b=>w0.heap.size<=b/\b≠g) w p v/\w0.heap.size<=g/\Below w0.heap.size w0 w
def CLd(w0 w:World)(g:Nat)(c:Cs)(v:CsV):Prop:=CAt 66 w g (csC c v)/\CIn (fun b=>w0.heap.size<=b/\b≠g) w c v/\w0.heap.size<=g/\Below w0.heap.size w0 w
theorem PLd.new{k:Nat}{w0 w:World}{p:Pr}{v:PrV}(h:PIn (fun b=>k<=b) w p v)(hk:w0.heap.size<=k)(hb:Below w0.heap.size w0 w):PLd w0 (j6Y w p v) w.heap.size p v:=
 ⟨j4b w p v,((h.mono (P':=fun b=>w0.heap.size<=b/\b≠w.heap.size) fun b hl hp=>⟨by omega,by omega⟩).over (z8A w p v)),hb.size,hb.trans ((z8A w p v).mono hb.size)⟩
theorem CLd.new{k:Nat}{w0 w:World}{c:Cs}{v:CsV}(h:CIn (fun b=>k<=b) w c v)(hk:w0.heap.size<=k)(hb:Below w0.heap.size w0 w):CLd w0 (j6z w c v) w.heap.size c v:=
 ⟨j3A w c v,((h.mono (P':=fun b=>w0.heap.size<=b/\b≠w.heap.size) fun b hl hp=>⟨by omega,by omega⟩).over (z5Q w c v)),hb.size,hb.trans ((z5Q w c v).mono hb.size)⟩
theorem PLd.over{w0 w w':World}{g:Nat}{p:Pr}{v:PrV}(h:PLd w0 w g p v)(hb:Below w.heap.size w w'):PLd w0 w' g p v:=
 ⟨h.1.over hb,h.2.1.over hb,h.2.2.1,zbt h.2.2.2 hb⟩
theorem CLd.over{w0 w w':World}{g:Nat}{c:Cs}{v:CsV}(h:CLd w0 w g c v)(hb:Below w.heap.size w w'):CLd w0 w' g c v:=
 ⟨h.1.over hb,h.2.1.over hb,h.2.2.1,zbt h.2.2.2 hb⟩
theorem PLd.load{w0 w:World}{g:Nat}{p:Pr}{v:PrV}(h:PLd w0 w g p v):(z6I (.pointer (some ⟨g,0,none⟩))).run prog w=.ok (.agg (prC p v)) w:=z0i h.1 (z0b _ _)
theorem CLd.load{w0 w:World}{g:Nat}{c:Cs}{v:CsV}(h:CLd w0 w g c v):(z3t (.pointer (some ⟨g,0,none⟩))).run prog w=.ok (.agg (csC c v)) w:=z2l h.1 (z0h _ _)
theorem PLd.lt{w0 w:World}{g:Nat}{p:Pr}{v:PrV}(h:PLd w0 w g p v):g<w.heap.size:=h.1.lt
theorem CLd.lt{w0 w:World}{g:Nat}{c:Cs}{v:CsV}(h:CLd w0 w g c v):g<w.heap.size:=h.1.lt
end Wd
namespace Wd
open Go.RowKit Pv Kc
attribute [local go_sem ↓] z0F z0v z1n z1e
set_option maxRecDepth 100000 in
theorem q5k(B g:Nat)(x:Wo)(d:Dd)(rc rn:Int)(w:World)(h:StW B g x w) :
  Calls prog 14 #[.pointer (some ⟨g,0,none⟩),.agg (ddC d),.agg #[.int .i64 rc,.int .i64 rn]] w fun e w'=>e=.returned (.bool true)/\Below w.heap.size w w':=by
 have HGP:=hide (show z0J x.p=true from (z7A x.p).2 h.inv.gp);have HGC:=hide (fun i hi=>(show z6t (x.c i)=true from (j7j (x.c i)).2 (h.inv.gc i hi)));have HON:=hide (fun i hi=>h.inv.on i hi);have HP:=hide (fun (wx:World) (hb:Below w.heap.size w wx)=>z3D B g x wx (h.over hb));have HC:=hide (fun (wx:World) (i:Nat) (hi:i<2) (hb:Below w.heap.size w wx)=>z5h B g x wx i hi (h.over hb));have HB0:Hid (Below w.heap.size w ((w.alloc (.cells (ddC d) 27)).alloc (.cells #[.int .i64 rc,.int .i64 rn] 30))):=(znw w _).alloc (by simp) _
 clear h
 go_enter func14,ntmps14
 go_upto_region 1 with fail
 generalize (w.alloc (.cells (ddC d) 27)).alloc (.cells #[.int .i64 rc,.int .i64 rn] 30)=w0 at *
 go_upto_region 2 with (go_at_call 11;refine (HP.out _ HB0.out).mono ?_;rintro e w1 ⟨vp,rfl,I1,b1⟩;have s1:=q4v I1;have HL1:=hide (PLd.new (w0:=w) I1 (by have:=HB0.out.size;omega) (zbt HB0.out b1));clear I1 b1)
 clear s1 HP;generalize j6Y w1 x.p vp=w2 at *;generalize w1.heap.size=gp at *
 go_upto_region 3 with fail
 go_loopw [8] (fun i wl=>∃ (k:Nat),k<=2/\i=.int .i64 (k:Int)/\Hid (PLd w wl gp x.p vp)) (fun i _=>2 - (intOf i).toNat)
 case atStart=>exact ⟨0,by omega,rfl,HL1⟩
 case round =>
  obtain ⟨k,hk,rfl,HRR⟩:=hrel;clear HL1
  by_cases hlt:k<2
  ·have hI1:(k:Int)<2:=by omega
   have HCk:=hide (HC.out wr k hlt HRR.out.2.2.2);have HOk:=hide (HON.out k hlt);have HGk:=hide (HGC.out k hlt)
   go_upto_region 6 with (go_at_call 15;refine HCk.out.mono ?_;rintro e w3 ⟨vc,rfl,I3,b3⟩;have s3:=q3P I3;unfold Z22 at s3;have HL3:=hide (show _/\_ from ⟨CLd.new (w0:=w) I3 (by have:=HRR.out.2.2.2.size;omega) (zbt HRR.out.2.2.2 b3),(HRR.out.over b3).over (z5Q w3 (x.c k) vc)⟩);clear I3 b3)
   clear s3;generalize j6z w3 (x.c k) vc=w4 at *;generalize w3.heap.size=gc at *;have hz3:=HL3.out.1.lt;have hz4:=HL3.out.2.lt;obtain ⟨on,hon⟩:∃ on,(x.c k).on=on:=⟨_,rfl⟩;obtain ⟨go,hgo⟩:∃ go,(x.c k).gone=go:=⟨_,rfl⟩;obtain rfl | rfl:k=0∨k=1:=by omega
   ·have hS:∀ wx,Below w4.heap.size w4 wx->(z3t (.pointer (some ⟨gc,0,none⟩))).run prog wx=.ok (.agg (csC (x.c 0) vc)) wx/\wx.cell? ⟨gc,0,none⟩=some (.bool on)/\wx.cell? ⟨gc,1,none⟩=some (.bool go)/\wx.cell? ⟨gp,66,none⟩=some (.bool on)/\wx.cell? ⟨gp,67,none⟩=some (.bool go):=fun wx hb=>by
     have h1:=HL3.out.1.over hb;have h2:=HL3.out.2.over hb;rw[← hon,← hgo];exact ⟨h1.load,h1.1.cell 0,h1.1.cell 1,by rw[HOk.out.1];exact h2.1.cell 66,by rw[HOk.out.2];exact h2.1.cell 67⟩
    have hc1:∀ wx,Below w4.heap.size w4 wx->Calls prog 16 #[.agg (csC (x.c 0) vc)] wx fun e w'=>e=.returned (.bool true)/\Below w4.heap.size w4 w':=fun wx h=>(z7E (x.c 0) vc _ wx (HL3.out.1.over h).2.1).mono fun _ _ hh=>⟨hh.1.trans (by rw[HGk.out]),zbt h hh.2⟩
    have HL4:=hide HL3.out.2;clear HL3 HOk HGk HON HGC HC HCk hon hgo
    go_region_held3 (fun wx=>(z3t (.pointer (some ⟨gc,0,none⟩))).run prog wx=.ok (.agg (csC (x.c 0) vc)) wx/\wx.cell? ⟨gc,0,none⟩=some (.bool on)/\wx.cell? ⟨gc,1,none⟩=some (.bool go)/\wx.cell? ⟨gp,66,none⟩=some (.bool on)/\wx.cell? ⟨gp,67,none⟩=some (.bool go)) (first | exact hS _ hb | exact hS _ hb.drew | exact hS _ (Below.refl _ _).drew | exact hS _ (Below.refl _ _)) ((go_at_call 16;refine (hc1 _ (by first | exact hb | exact hb.drew | exact (Below.refl _ _).drew | exact Below.refl _ _)).mono ?_;rintro e wy ⟨rfl,hb⟩;dsimp only))
    simp only[Exit.then];apply_assumption;clear hS hc1;go_wp2;exact ⟨⟨1,by omega,by go_num,hide (HL4.out.over hb)⟩,by simp[intOf]⟩
   ·have hS:∀ wx,Below w4.heap.size w4 wx->(z3t (.pointer (some ⟨gc,0,none⟩))).run prog wx=.ok (.agg (csC (x.c 1) vc)) wx/\wx.cell? ⟨gc,0,none⟩=some (.bool on)/\wx.cell? ⟨gc,1,none⟩=some (.bool go)/\wx.cell? ⟨gp,80,none⟩=some (.bool on)/\wx.cell? ⟨gp,81,none⟩=some (.bool go):=fun wx hb=>by
     have h1:=HL3.out.1.over hb;have h2:=HL3.out.2.over hb;rw[← hon,← hgo];exact ⟨h1.load,h1.1.cell 0,h1.1.cell 1,by rw[HOk.out.1];exact h2.1.cell 80,by rw[HOk.out.2];exact h2.1.cell 81⟩
    have hc1:∀ wx,Below w4.heap.size w4 wx->Calls prog 16 #[.agg (csC (x.c 1) vc)] wx fun e w'=>e=.returned (.bool true)/\Below w4.heap.size w4 w':=fun wx h=>(z7E (x.c 1) vc _ wx (HL3.out.1.over h).2.1).mono fun _ _ hh=>⟨hh.1.trans (by rw[HGk.out]),zbt h hh.2⟩
    have HL4:=hide HL3.out.2;clear HL3 HOk HGk HON HGC HC HCk hon hgo
    go_region_held3 (fun wx=>(z3t (.pointer (some ⟨gc,0,none⟩))).run prog wx=.ok (.agg (csC (x.c 1) vc)) wx/\wx.cell? ⟨gc,0,none⟩=some (.bool on)/\wx.cell? ⟨gc,1,none⟩=some (.bool go)/\wx.cell? ⟨gp,80,none⟩=some (.bool on)/\wx.cell? ⟨gp,81,none⟩=some (.bool go)) (first | exact hS _ hb | exact hS _ hb.drew | exact hS _ (Below.refl _ _).drew | exact hS _ (Below.refl _ _)) ((go_at_call 16;refine (hc1 _ (by first | exact hb | exact hb.drew | exact (Below.refl _ _).drew | exact Below.refl _ _)).mono ?_;rintro e wy ⟨rfl,hb⟩;dsimp only))
    simp only[Exit.then];apply_assumption;clear hS hc1;go_wp2;exact ⟨⟨2,by omega,by go_num,hide (HL4.out.over hb)⟩,by simp[intOf]⟩
  ·obtain rfl:k=2:=by omega
   have l5:=HRR.out.load;have hz5:=HRR.out.lt;have HG:=hide (z2x x.p vp _ wr HRR.out.2.1)
   go_wp2_with (go_at_call 17;refine HG.out.mono ?_;rintro e w6 ⟨rfl,b6⟩;rw[HGP.out];have HB6:=hide (zbt HRR.out.2.2.2 b6);clear b6)
   go_ret;exact ⟨rfl,HB6.out⟩
end Wd
namespace Wd
open Go.RowKit Pv Kc
attribute [local go_sem ↓] z4d
theorem j1X(A:Option Addr)(C b off:Nat)(l:List Dd)(w:World)(hD:q2A w A b off l) :
  Calls prog 9 #[.slice A l.length C,.func (.func 14) #[] #[]] w fun e w'=>∃ g,e=.returned (.tuple #[.pointer (some ⟨g,0,none⟩),.bool true])/\Below w.heap.size w w':=by
 have HA:=hide (z6e w);have HD:=hide (fun (wx:World) (hb:Below w.heap.size w wx)=>hD.over hb (Nat.le_refl _));clear hD
 go_enter func9,ntmps9
 go_upto_region 3 with (go_at_call 18;refine HA.out.mono ?_;rintro e w1 ⟨rfl,b1⟩;have HB1:=hide b1;clear b1)
 have HN:=hide (z4q w1)
 go_upto_region 4 with (go_at_call 26;refine HN.out.mono ?_;rintro e w2 ⟨g,rfl,h2,b2⟩;have HS2:=hide (show _/\_ from ⟨h2,zbt HB1.out b2⟩);have hg1:=HB1.out.size;have hg2:=h2.le;clear h2 b2)
 go_upto_region 5 with fail
 have HR0:Hid (StW w1.heap.size g (stW l 0) w2/\Below w.heap.size w w2):=HS2.out;clear HS2 HN HA
 go_loopw [7] (fun i wl=>∃ (k:Nat),k<=l.length/\k<=120/\i=.int .i64 (k:Int)/\Hid (StW w1.heap.size g (stW l k) wl/\Below w.heap.size w wl)) (fun i _=>120 - (intOf i).toNat)
 case atStart=>exact ⟨0,Nat.zero_le _,by omega,rfl,HR0⟩
 case round =>
  obtain ⟨k,hk,hk2,rfl,HRR⟩:=hrel;clear HR0
  by_cases hlt:k<l.length/\k<120
  ·obtain ⟨h1,h2⟩:=hlt;have hI1:(k:Int)<(l.length:Int):=by omega
   have hI2:(k:Int)<120:=by omega
   have hx:l[k]?=some l[k]:=List.getElem?_eq_getElem h1;have hst:=z9K hx;generalize l[k]=d at hx hst;have HST:=hide hst;have HDO:=hide (z4N w1.heap.size g (stW l k) d wr HRR.out.1);have ld:=(HD.out wr HRR.out.2).load hx;have hA:A=some ⟨b,off,none⟩:=(HD.out wr HRR.out.2).adr (by omega)
   have HX:=hide hx;subst hA;clear hst hx
   go_upto_region 8 with (go_at_call 21;refine HDO.out.mono ?_;rintro e w3 ⟨rfl,h3,a3⟩;have HS3:=hide (show _/\_ from ⟨h3,a3⟩);clear h3 a3)
   have S4:=HS3.out.1.over (znw w3 (.cells #[.int .i64 (doW (stW l k) d).2.1,.int .i64 (doW (stW l k) d).2.2] 30));have R4:CAt 30 (w3.alloc (.cells #[.int .i64 (doW (stW l k) d).2.1,.int .i64 (doW (stW l k) d).2.2] 30)) w3.heap.size #[.int .i64 (doW (stW l k) d).2.1,.int .i64 (doW (stW l k) d).2.2]:=CAt.new _ w3 _;have B4:Below w.heap.size w (w3.alloc (.cells #[.int .i64 (doW (stW l k) d).2.1,.int .i64 (doW (stW l k) d).2.2] 30)):=(z6a (by omega) HRR.out.2 HS3.out.2).alloc (z6a (by omega) HRR.out.2 HS3.out.2).size _
   rw[← HST.out]at S4;have HS4:=hide (show _/\_/\_ from ⟨S4,B4,R4⟩);clear S4 B4 R4 HS3 HDO HRR ld;generalize (doW (stW l k) d).2.1=rc at *;generalize (doW (stW l k) d).2.2=rn at *;generalize w3.alloc (.cells #[.int .i64 rc,.int .i64 rn] 30)=w4 at *;have hd4:Below w4.heap.size w4 w4.drew:=(Below.refl _ w4).drew;have HT:=hide (q5k w1.heap.size g (stW l (k+1)) d rc rn w4.drew (HS4.out.1.over hd4));have ld4:=(HD.out w4.drew (zbt HS4.out.2.1 hd4)).load HX.out;have r0:w4.cell? ⟨w3.heap.size,0,none⟩=some (.int .i64 rc):=HS4.out.2.2.cell 0;have r1:w4.cell? ⟨w3.heap.size,1,none⟩=some (.int .i64 rn):=HS4.out.2.2.cell 1;have hz4:=HS4.out.2.2.lt;have HD4:=hide hd4;clear hd4
   go_region_with (go_at_call 14;refine HT.out.mono ?_;rintro e w5 ⟨rfl,b5⟩;have HB5:=hide (zbt HD4.out b5);clear b5)
   all_goals (apply_assumption;go_wp2;exact ⟨⟨k+1,by omega,by omega,by go_num,hide ⟨HS4.out.1.over HB5.out,zbt HS4.out.2.1 HB5.out⟩⟩,by simp[intOf];omega⟩)
  ·by_cases h1:k<l.length
   ·obtain rfl:k=120:=by omega
    have hI1:((120:Nat):Int)<(l.length:Int):=by omega
    have hI2:(120:Int)<(l.length:Int):=by omega
    go_wp2;go_ret2
    first
     | exact ⟨g,rfl,HRR.out.2⟩
     | exact ⟨⟨g,rfl⟩,HRR.out.2⟩
   ·have hI1:¬ (k:Int)<(l.length:Int):=by omega
    go_wp2;go_ret2
    first
     | exact ⟨g,rfl,HRR.out.2⟩
     | exact ⟨⟨g,rfl⟩,HRR.out.2⟩
theorem q4D(A:Option Addr)(C b off:Nat)(l:List Dd)(w:World)(hD:q2A w A b off l):Calls prog 4 #[.slice A l.length C] w fun e w'=>e=.returned (.bool true)/\Below w.heap.size w w':=by
 have HP:=hide (j1X A C b off l w hD);clear hD
 go_enter func4,ntmps4
 go_wp2_with (go_at_call 9;refine HP.out.mono ?_;rintro e w1 ⟨g,rfl,b1⟩;have HB:=hide b1;clear b1)
 go_ret;exact ⟨rfl,HB.out⟩
end Wd
end Go.Proofs.YtknaapahicaobaaGreat
