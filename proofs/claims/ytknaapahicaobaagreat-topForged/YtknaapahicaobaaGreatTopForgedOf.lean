/- Parts of the proof: WO WLY WLZ WPQ WSL WRF WEF WEH WEG. -/
import Derived.Test.YtknaapahicaobaaGreatRows
import Derived.Test.YtknaapahicaobaaGreatDK17
import Derived.ChangeOld
set_option maxRecDepth 100000
set_option maxHeartbeats 16000000
namespace Go.Proofs.YtknaapahicaobaaGreat
open Go.Proofs.Tryz
namespace Wd
open Go.ChangeShapes Go.WideShapes Go.ChangeAt Go.RowKit Go.Deep
section
variable {H:Type} {enc:TypeId×Value->H} {W:World}
theorem open_numb{r:Reach}{b0:Nat}{v:Value}{d:DataW H}{p:List MemPlace}(hv:Value.okWide prog W r b0 3 v)(h:DataW.Trod enc prog W 0 (fun _=>true) true 3 v d p):∃ n:Int,v=.int .i64 n/\-9223372036854775808<=n/\n<=9223372036854775807:=by
 obtain ⟨n,e,_,_,wf⟩:=open_int underlying3 hv h;exact ⟨n,e,bounds_i64 wf⟩
end
end Wd
namespace Wd
open Go.RowKit Pv Kc
noncomputable def j6Y(w:World)(p:Pr)(v:PrV):World:=(w.alloc (.cells zeroCells56 56)).setCells w.heap.size 0 (prC p v).toList
theorem j4b(w:World)(p:Pr)(v:PrV):CAt 56 (j6Y w p v) w.heap.size (prC p v):=(CAt.new 56 w zeroCells56).z0s (by rw[z0d];rfl)
theorem z8A(w:World)(p:Pr)(v:PrV):Below w.heap.size w (j6Y w p v):=z0a (Nat.le_refl _) _ _ _ (znw w _)
theorem q4v{P:Nat->Prop}{w:World}{p:Pr}{v:PrV}(h:PIn P w p v):(z4I (.pointer (some ⟨w.heap.size,0,none⟩)) (.agg (prC p v))).run prog (w.alloc (.cells zeroCells56 56))=.ok () (j6Y w p v):=z0j (CAt.new _ w _) z0d (z0b p v) (z0V h)
noncomputable def j6z(w:World)(c:Cs)(v:CsV):World:=(w.alloc (.cells Z22 66)).setCells w.heap.size 0 (csC c v).toList
theorem j3A(w:World)(c:Cs)(v:CsV):CAt 66 (j6z w c v) w.heap.size (csC c v):=(CAt.new 66 w Z22).z0s (by rw[z0m];rfl)
theorem z5Q(w:World)(c:Cs)(v:CsV):Below w.heap.size w (j6z w c v):=z0a (Nat.le_refl _) _ _ _ (znw w _)
theorem q3P{P:Nat->Prop}{w:World}{c:Cs}{v:CsV}(h:CIn P w c v):(z7t (.pointer (some ⟨w.heap.size,0,none⟩)) (.agg (csC c v))).run prog (w.alloc (.cells Z22 66))=.ok () (j6z w c v):=z1o (CAt.new _ w _) z0m (z0h c v) (z1B h)
def PLd(w0 w:World)(g:Nat)(p:Pr)(v:PrV):Prop:=CAt 56 w g (prC p v)/\PIn (fun b=>w0.heap.size<=b/\b≠g) w p v/\w0.heap.size<=g/\Below w0.heap.size w0 w
def CLd(w0 w:World)(g:Nat)(c:Cs)(v:CsV):Prop:=CAt 66 w g (csC c v)/\CIn (fun b=>w0.heap.size<=b/\b≠g) w c v/\w0.heap.size<=g/\Below w0.heap.size w0 w
theorem PLd.new{k:Nat}{w0 w:World}{p:Pr}{v:PrV}(h:PIn (fun b=>k<=b) w p v)(hk:w0.heap.size<=k)(hb:Below w0.heap.size w0 w):PLd w0 (j6Y w p v) w.heap.size p v:=
 ⟨j4b w p v,((h.mono (P':=fun b=>w0.heap.size<=b/\b≠w.heap.size) fun b hl hp=>⟨by omega,by omega⟩).over (z8A w p v)),hb.size,hb.trans ((z8A w p v).mono hb.size)⟩
theorem CLd.new{k:Nat}{w0 w:World}{c:Cs}{v:CsV}(h:CIn (fun b=>k<=b) w c v)(hk:w0.heap.size<=k)(hb:Below w0.heap.size w0 w):CLd w0 (j6z w c v) w.heap.size c v:=
 ⟨j3A w c v,((h.mono (P':=fun b=>w0.heap.size<=b/\b≠w.heap.size) fun b hl hp=>⟨by omega,by omega⟩).over (z5Q w c v)),hb.size,hb.trans ((z5Q w c v).mono hb.size)⟩
theorem PLd.over{w0 w w':World}{g:Nat}{p:Pr}{v:PrV}(h:PLd w0 w g p v)(hb:Below w.heap.size w w'):PLd w0 w' g p v:=
 ⟨h.1.over hb,h.2.1.over hb,h.2.2.1,zbt h.2.2.2 hb⟩
theorem CLd.over{w0 w w':World}{g:Nat}{c:Cs}{v:CsV}(h:CLd w0 w g c v)(hb:Below w.heap.size w w'):CLd w0 w' g c v:=
 ⟨h.1.over hb,h.2.1.over hb,h.2.2.1,zbt h.2.2.2 hb⟩
theorem PLd.load{w0 w:World}{g:Nat}{p:Pr}{v:PrV}(h:PLd w0 w g p v):(z6I (.pointer (some ⟨g,0,none⟩))).run prog w=.ok (.agg (prC p v)) w:=z0i h.1 (z0b _ _)
theorem CLd.load{w0 w:World}{g:Nat}{c:Cs}{v:CsV}(h:CLd w0 w g c v):(z3t (.pointer (some ⟨g,0,none⟩))).run prog w=.ok (.agg (csC c v)) w:=z2l h.1 (z0h _ _)
theorem PLd.lt{w0 w:World}{g:Nat}{p:Pr}{v:PrV}(h:PLd w0 w g p v):g<w.heap.size:=h.1.lt
theorem CLd.lt{w0 w:World}{g:Nat}{c:Cs}{v:CsV}(h:CLd w0 w g c v):g<w.heap.size:=h.1.lt
theorem j5Q{P Q:Nat->Prop}{w:World}{p:Pr}{v:PrV}{c:Cs}{u:CsV}(h:PIn P w p v)(k:CIn Q w c u):∃ wa wb,
  (z4I (.pointer (some ⟨w.heap.size,0,none⟩)) (.agg (prC p v))).run prog ((w.alloc (.cells zeroCells56 56)).alloc (.cells Z22 66))=.ok () wa /\
  (z7t (.pointer (some ⟨w.heap.size+1,0,none⟩)) (.agg (csC c u))).run prog wa=.ok () wb /\
  CAt 56 wb w.heap.size (prC p v)/\CAt 66 wb (w.heap.size+1) (csC c u)/\Below w.heap.size w wb:=by
 have A0:CAt 56 ((w.alloc (.cells zeroCells56 56)).alloc (.cells Z22 66)) w.heap.size zeroCells56:=(CAt.new _ w _).alloc _;have B0:CAt 66 ((w.alloc (.cells zeroCells56 56)).alloc (.cells Z22 66)) (w.heap.size+1) Z22:=CAt.new2 _ w _ _;have b0:Below w.heap.size w ((w.alloc (.cells zeroCells56 56)).alloc (.cells Z22 66)):=(znw w _).alloc (by simp) _
 have A1:=A0.z0s (ds:=prC p v) (by rw[z0d];rfl)
 have B1:=B0.others (c:=w.heap.size) (o:=0) (by omega) (prC p v).toList
 have b1:=z0a (b:=w.heap.size) (Nat.le_refl _) (prC p v).toList 0 _ b0;refine ⟨_,_,z0j A0 z0d (z0b p v) (z0V h),z1o B1 z0m (z0h c u) (z1B k),A1.others (by omega) _,B1.z0s (by rw[z0m];rfl),z0a (by omega) _ _ _ b1⟩
theorem q7w{P Q R:Nat->Prop}{w:World}{p:Pr}{v:PrV}{c d:Cs}{u t:CsV}(h:PIn P w p v)(k:CIn Q w c u)(m:CIn R w d t):∃ wa wb wc,
  (z4I (.pointer (some ⟨w.heap.size,0,none⟩)) (.agg (prC p v))).run prog (((w.alloc (.cells zeroCells56 56)).alloc (.cells Z22 66)).alloc (.cells Z22 66))=.ok () wa /\
  (z7t (.pointer (some ⟨w.heap.size+1,0,none⟩)) (.agg (csC c u))).run prog wa=.ok () wb /\
  (z7t (.pointer (some ⟨w.heap.size+1+1,0,none⟩)) (.agg (csC d t))).run prog wb=.ok () wc /\
  CAt 56 wc w.heap.size (prC p v)/\CAt 66 wc (w.heap.size+1) (csC c u)/\CAt 66 wc (w.heap.size+1+1) (csC d t)/\Below w.heap.size w wc:=by
 have A0:CAt 56 (((w.alloc (.cells zeroCells56 56)).alloc (.cells Z22 66)).alloc (.cells Z22 66)) w.heap.size zeroCells56:=((CAt.new _ w _).alloc _).alloc _;have B0:CAt 66 (((w.alloc (.cells zeroCells56 56)).alloc (.cells Z22 66)).alloc (.cells Z22 66)) (w.heap.size+1) Z22:=(CAt.new2 _ w _ _).alloc _
 have C0:CAt 66 (((w.alloc (.cells zeroCells56 56)).alloc (.cells Z22 66)).alloc (.cells Z22 66)) (w.heap.size+1+1) Z22:=by
  have:=CAt.new2 66 (w.alloc (.cells zeroCells56 56)) (.cells Z22 66) Z22
  rwa [show (w.alloc (.cells zeroCells56 56)).heap.size=w.heap.size+1 by simp]at this
 have b0:Below w.heap.size w (((w.alloc (.cells zeroCells56 56)).alloc (.cells Z22 66)).alloc (.cells Z22 66)):=((znw w _).alloc (by simp) _).alloc (by simp;omega) _
 have A1:=A0.z0s (ds:=prC p v) (by rw[z0d];rfl)
 have B1:=B0.others (c:=w.heap.size) (o:=0) (by omega) (prC p v).toList
 have C1:=C0.others (c:=w.heap.size) (o:=0) (by omega) (prC p v).toList
 have b1:=z0a (b:=w.heap.size) (Nat.le_refl _) (prC p v).toList 0 _ b0;have A2:=A1.others (c:=w.heap.size+1) (o:=0) (by omega) (csC c u).toList
 have B2:=B1.z0s (ds:=csC c u) (by rw[z0m];rfl)
 have C2:=C1.others (c:=w.heap.size+1) (o:=0) (by omega) (csC c u).toList
 have b2:=z0a (b:=w.heap.size+1) (by omega) (csC c u).toList 0 _ b1
 exact ⟨_,_,_,z0j A0 z0d (z0b p v) (z0V h),z1o B1 z0m (z0h c u) (z1B k),z1o C2 z0m (z0h d t) (z1B m),A2.others (by omega) _,B2.others (by omega) _,C2.z0s (by rw[z0m];rfl),z0a (by omega) _ _ _ b2⟩
def PLk(n:Nat)(w:World)(g:Nat)(p:Pr)(v:PrV):Prop:=CAt 56 w g (prC p v)/\PIn (fun b=>n<=b) w p v/\n<=g
def CLk(n:Nat)(w:World)(g:Nat)(c:Cs)(v:CsV):Prop:=CAt 66 w g (csC c v)/\CIn (fun b=>n<=b) w c v/\n<=g
theorem PLk.over{n:Nat}{w w':World}{g:Nat}{p:Pr}{v:PrV}(h:PLk n w g p v)(hb:Below w.heap.size w w'):PLk n w' g p v:=⟨h.1.over hb,h.2.1.over hb,h.2.2⟩
theorem CLk.over{n:Nat}{w w':World}{g:Nat}{c:Cs}{v:CsV}(h:CLk n w g c v)(hb:Below w.heap.size w w'):CLk n w' g c v:=⟨h.1.over hb,h.2.1.over hb,h.2.2⟩
theorem PLk.alt{n g0:Nat}{w w':World}{g:Nat}{p:Pr}{v:PrV}(h:PLk n w g p v)(ha:Alt g0 w w')(hg:g0<n):PLk n w' g p v:=
 ⟨ha.cat (by have:=h.2.2;omega) h.1,h.2.1.keep fun b hb hl=>ha.block b hl (by omega),h.2.2⟩
theorem CLk.alt{n g0:Nat}{w w':World}{g:Nat}{c:Cs}{v:CsV}(h:CLk n w g c v)(ha:Alt g0 w w')(hg:g0<n):CLk n w' g c v:=
 ⟨ha.cat (by have:=h.2.2;omega) h.1,h.2.1.keep fun b hb hl=>ha.block b hl (by omega),h.2.2⟩
theorem PLk.load{n:Nat}{w:World}{g:Nat}{p:Pr}{v:PrV}(h:PLk n w g p v):(z6I (.pointer (some ⟨g,0,none⟩))).run prog w=.ok (.agg (prC p v)) w:=z0i h.1 (z0b _ _)
theorem CLk.load{n:Nat}{w:World}{g:Nat}{c:Cs}{v:CsV}(h:CLk n w g c v):(z3t (.pointer (some ⟨g,0,none⟩))).run prog w=.ok (.agg (csC c v)) w:=z2l h.1 (z0h _ _)
theorem PLk.lt{n:Nat}{w:World}{g:Nat}{p:Pr}{v:PrV}(h:PLk n w g p v):g<w.heap.size:=h.1.lt
theorem CLk.lt{n:Nat}{w:World}{g:Nat}{c:Cs}{v:CsV}(h:CLk n w g c v):g<w.heap.size:=h.1.lt
theorem PLk.mk{n k:Nat}{w wb:World}{g:Nat}{p:Pr}{v:PrV}(hc:CAt 56 wb g (prC p v))(h:PIn (fun b=>k<=b) w p v)(hb:Below w.heap.size w wb)(hk:n<=k)(hg:n<=g):PLk n wb g p v:=⟨hc,(h.mono (P':=fun b=>n<=b) fun _ _ hp=>Nat.le_trans hk hp).over hb,hg⟩
theorem CLk.mk{n k:Nat}{w wb:World}{g:Nat}{c:Cs}{v:CsV}(hc:CAt 66 wb g (csC c v))(h:CIn (fun b=>k<=b) w c v)(hb:Below w.heap.size w wb)(hk:n<=k)(hg:n<=g):CLk n wb g c v:=⟨hc,(h.mono (P':=fun b=>n<=b) fun _ _ hp=>Nat.le_trans hk hp).over hb,hg⟩
theorem q7Y{w:World}{b:Nat}{d:Dd}(h:CAt 27 w b (ddC d)):(z8I (.pointer (some ⟨b,0,none⟩))).run prog w=.ok (.agg (ddC d)) w:=
 run_loadAt_mid (P:=prog) w b 0 27 (ddC d).toList _ h.range underlying27 rfl (by rw[j2F];rfl)
theorem z4v(B g:Nat)(x:Wo)(w:World)(h:StW B g x w):Calls prog 15 #[.pointer (some ⟨g,0,none⟩),.int .i64 0] w fun e w'=>∃ v',e=.returned (.agg (csC (x.c 0) v'))/\CIn (fun b=>w.heap.size+1<=b) w' (x.c 0) v'/\Below w.heap.size w w':=z5h B g x w 0 (by omega) h
theorem z8T(B g:Nat)(x:Wo)(w:World)(h:StW B g x w):Calls prog 15 #[.pointer (some ⟨g,0,none⟩),.int .i64 1] w fun e w'=>∃ v',e=.returned (.agg (csC (x.c 1) v'))/\CIn (fun b=>w.heap.size+1<=b) w' (x.c 1) v'/\Below w.heap.size w w':=z5h B g x w 1 (by omega) h
end Wd
namespace Wd
open Go.RowKit Pv Kc
theorem StW.down{B B' g:Nat}{x:Wo}{w:World}(h:StW B g x w)(hB:B'<=B):StW B' g x w:=by
 obtain ⟨v,hc,hi⟩:=h.at_;exact ⟨⟨v,hc,hi.mono fun b _ hb=>⟨by omega,hb.2⟩⟩,h.inv,by have:=h.le;omega,h.lt⟩
theorem q5v(g:Nat)(d:Dd)(rc rn:Int)(w:World):Calls prog 20 #[.pointer (some ⟨g,0,none⟩),.agg (ddC d),.agg #[.int .i64 rc,.int .i64 rn]] w fun e w'=>e=.returned (.bool true)/\Below w.heap.size w w':=by
 go_enter func20,ntmps20
 go_wp2;go_ret;exact ⟨rfl,(znw w _).alloc (by simp) _⟩
attribute [local go_sem ↓] z4d
theorem q6N(A:Option Addr)(C b off:Nat)(l:List Dd)(w:World)(hD:q2A w A b off l) :
  Calls prog 9 #[.slice A l.length C,.func (.func 20) #[] #[]] w fun e w'=>∃ g,e=.returned (.tuple #[.pointer (some ⟨g,0,none⟩),.bool true])/\StW w.heap.size g (stW l (min l.length 120)) w'/\Below w.heap.size w w':=by
 have HA:=hide (z6e w);have HD:=hide (fun (wx:World) (hb:Below w.heap.size w wx)=>hD.over hb (Nat.le_refl _));clear hD
 go_enter func9,ntmps9
 go_upto_region 3 with (go_at_call 18;refine HA.out.mono ?_;rintro e w1 ⟨rfl,b1⟩;have HB1:=hide b1;clear b1)
 have HN:=hide (z4q w1)
 go_upto_region 4 with (go_at_call 26;refine HN.out.mono ?_;rintro e w2 ⟨g,rfl,h2,b2⟩;have HS2:=hide (show _/\_ from ⟨h2,zbt HB1.out b2⟩);have hg1:=HB1.out.size;have hg2:=h2.le;clear h2 b2)
 go_upto_region 5 with fail
 have HR0:Hid (StW w1.heap.size g (stW l 0) w2/\Below w.heap.size w w2):=HS2.out;clear HS2 HN HA
 go_loopw [7] (fun i wl=>∃ (k:Nat),k<=l.length/\k<=120/\i=.int .i64 (k:Int)/\Hid (StW w1.heap.size g (stW l k) wl/\Below w.heap.size w wl)) (fun i _=>120 - (intOf i).toNat)
 case atStart=>exact ⟨0,Nat.zero_le _,by omega,rfl,HR0⟩
 case round =>
  obtain ⟨k,hk,hk2,rfl,HRR⟩:=hrel;clear HR0
  by_cases hlt:k<l.length/\k<120
  ·obtain ⟨h1,h2⟩:=hlt;have hI1:(k:Int)<(l.length:Int):=by omega
   have hI2:(k:Int)<120:=by omega
   have hx:l[k]?=some l[k]:=List.getElem?_eq_getElem h1;have hst:=z9K hx;generalize l[k]=d at hx hst;have HST:=hide hst;have HDO:=hide (z4N w1.heap.size g (stW l k) d wr HRR.out.1);have ld:=(HD.out wr HRR.out.2).load hx;have hA:A=some ⟨b,off,none⟩:=(HD.out wr HRR.out.2).adr (by omega)
   have HX:=hide hx;subst hA;clear hst hx
   go_upto_region 8 with (go_at_call 21;refine HDO.out.mono ?_;rintro e w3 ⟨rfl,h3,a3⟩;have HS3:=hide (show _/\_ from ⟨h3,a3⟩);clear h3 a3)
   have S4:=HS3.out.1.over (znw w3 (.cells #[.int .i64 (doW (stW l k) d).2.1,.int .i64 (doW (stW l k) d).2.2] 30));have R4:CAt 30 (w3.alloc (.cells #[.int .i64 (doW (stW l k) d).2.1,.int .i64 (doW (stW l k) d).2.2] 30)) w3.heap.size #[.int .i64 (doW (stW l k) d).2.1,.int .i64 (doW (stW l k) d).2.2]:=CAt.new _ w3 _;have B4:Below w.heap.size w (w3.alloc (.cells #[.int .i64 (doW (stW l k) d).2.1,.int .i64 (doW (stW l k) d).2.2] 30)):=(z6a (by omega) HRR.out.2 HS3.out.2).alloc (z6a (by omega) HRR.out.2 HS3.out.2).size _
   rw[← HST.out]at S4;have HS4:=hide (show _/\_/\_ from ⟨S4,B4,R4⟩);clear S4 B4 R4 HS3 HDO HRR ld;generalize (doW (stW l k) d).2.1=rc at *;generalize (doW (stW l k) d).2.2=rn at *;generalize w3.alloc (.cells #[.int .i64 rc,.int .i64 rn] 30)=w4 at *;have hd4:Below w4.heap.size w4 w4.drew:=(Below.refl _ w4).drew;have HT:=hide (q5v g d rc rn w4.drew);have ld4:=(HD.out w4.drew (zbt HS4.out.2.1 hd4)).load HX.out;have r0:w4.cell? ⟨w3.heap.size,0,none⟩=some (.int .i64 rc):=HS4.out.2.2.cell 0;have r1:w4.cell? ⟨w3.heap.size,1,none⟩=some (.int .i64 rn):=HS4.out.2.2.cell 1;have hz4:=HS4.out.2.2.lt;have HD4:=hide hd4;clear hd4
   go_region_with (go_at_call 20;refine HT.out.mono ?_;rintro e w5 ⟨rfl,b5⟩;have HB5:=hide (zbt HD4.out b5);clear b5)
   all_goals (apply_assumption;go_wp2;exact ⟨⟨k+1,by omega,by omega,by go_num,hide ⟨HS4.out.1.over HB5.out,zbt HS4.out.2.1 HB5.out⟩⟩,by simp[intOf];omega⟩)
  ·by_cases h1:k<l.length
   ·obtain rfl:k=120:=by omega
    have hI1:((120:Nat):Int)<(l.length:Int):=by omega
    have hI2:(120:Int)<(l.length:Int):=by omega
    go_wp2;go_ret2;have HE:=hide (show StW w.heap.size g (stW l (min l.length 120)) wr from by rw[show min l.length 120=120 by omega];exact HRR.out.1.down hg1)
    first
     | exact ⟨g,rfl,HE.out,HRR.out.2⟩
     | exact ⟨⟨g,rfl⟩,HE.out,HRR.out.2⟩
   ·have hI1:¬ (k:Int)<(l.length:Int):=by omega
    go_wp2;go_ret2;have HE:=hide (show StW w.heap.size g (stW l (min l.length 120)) wr from by rw[show min l.length 120=k by omega];exact HRR.out.1.down hg1)
    first
     | exact ⟨g,rfl,HE.out,HRR.out.2⟩
     | exact ⟨⟨g,rfl⟩,HE.out,HRR.out.2⟩
end Wd
namespace Wd
open Go.RowKit Pv
theorem q9R{P:Nat->Prop}{w wx:World}{l:List ByteArray}{v:Value}(h:z0I P w v 1 16 (txC l))(hb:Below w.heap.size w wx):∃ A C,v=.slice A l.length C/\l.length<=140737488351232/\∀ k,k<l.length->∃ b o,A=some ⟨b,o,none⟩/\wx.cell? ⟨b,o+k,none⟩=some (.string (l.getD k ByteArray.empty)):=by
 obtain ⟨A0,n0,C0,C1,e0,-,h⟩:=h;obtain ⟨A,C,e,s,-,c,-⟩:=(h.over hb).open (z1L l) (by decide)
 cases e;refine ⟨A0,C0,e0,by omega,fun k hk=>?_⟩
 obtain ⟨b,o,ea,-,-,hc⟩:=c (by omega)
 exact ⟨b,o,ea,hc _ _ (z7D l k hk)⟩
end Wd
namespace Wd
open Go.RowKit Pv Kc
theorem j0I{s:St}{d v n:Int}(h:(z0H s d v n).2≠0):(z0H s d v n).1=s:=by
 unfold z0H at h ⊢
 repeat' split
 all_goals simp_all
theorem rf_undel{s:St}{d v n:Int}{y:Wt}(h:(z0R s d v n y).2≠0):(z0R s d v n y).1=s:=by
 unfold z0R at h ⊢
 repeat' split
 all_goals simp_all
theorem q9h{s:St}{v:Int}(h:(z1h s v).2≠0):(z1h s v).1=s:=by
 unfold z1h at h ⊢
 repeat' split
 all_goals simp_all
theorem q6k{p:Pr}{d v n:Int}(h:(z2D p d v n).2≠0):(z2D p d v n).1=p:=by
 unfold z2D at h ⊢
 split
 ·rename_i hg;rw[if_pos hg]at h
  show ({ p with s:=(z0H p.s d v n).1 }:Pr)=p
  rw[j0I h]
 ·rfl
theorem q6q{p:Pr}{d v n now:Int}(h:(z1S p d v n now).2≠0):(z1S p d v n now).1=p:=by
 unfold z1S at h ⊢
 repeat' split
 all_goals simp_all
theorem j0W{p:Pr}{v n:Int}(h:(z4m p v n).2≠0):(z4m p v n).1=p:=by
 unfold z4m at h ⊢
 repeat' split
 all_goals simp_all
theorem j0w{p:Pr}{c:Int}{l:List Int}(h:(z3z p c l).2≠0):(z3z p c l).1=p:=by
 unfold z3z at h ⊢
 repeat' split
 all_goals simp_all
theorem j1r{c:Cs}{l:List Int}(h:(z3r c l).2≠0):(z3r c l).1=c:=by
 unfold z3r at h ⊢
 repeat' split
 all_goals simp_all
theorem j3C{c:Cs}{k i v n now:Int}(h:(z2p c k i v n now).2≠0):(z2p c k i v n now).1=c:=by
 unfold z2p at h ⊢
 split
 ·rename_i hg;rw[if_pos hg]at h
  have:Ln.z5b c.out (Cd.encS k i v n [] []) (now+40)=c.out:=by
   unfold Ln.z5b;rw[if_neg h]
  show ({ c with out:=Ln.z5b c.out (Cd.encS k i v n [] []) (now+40) }:Cs)=c
  rw[this]
 ·rfl
theorem j1e{c:Cs}{v now:Int}(h:(z3I c v now).2≠0):(z3I c v now).1=c:=by
 unfold z3I at h ⊢
 repeat' split
 all_goals simp_all
theorem q4s{c:Cs}{v i now:Int}(h:(z1p c v i now).2≠0):(z1p c v i now).1=c:=by
 unfold z1p at h ⊢
 repeat' split
 ·rename_i h1 h2 h3 h4;rw[if_pos h1,if_pos h2,if_pos h3,if_pos h4]at h;exact j3C h
 all_goals rfl
theorem z7H(f:Nat->Cs)(i:Nat):z2Y f i (f i)=f:=by
 funext k
 unfold z2Y
 split
 ·rename_i e;rw[e]
 ·rfl
theorem j6I{x:Wo}{d:Dd}(h:(atP x d).2≠0):(atP x d).1=x:=by
 unfold atP at h ⊢
 split
 ·rename_i e;rw[if_pos e]at h
  show ({ x with p:=(z2D x.p d.d d.v d.n).1 }:Wo)=x
  rw[q6k h]
 ·rename_i e1;rw[if_neg e1]at h
  split
  ·rename_i e;rw[if_pos e]at h
   show ({ x with p:=(z1S x.p d.d d.v d.n x.ck).1 }:Wo)=x
   rw[q6q h]
  ·rename_i e2;rw[if_neg e2]at h
   split
   ·rename_i e;rw[if_pos e]at h
    show ({ x with p:={ x.p with s:=(z1h x.p.s d.v).1 } }:Wo)=x
    rw[q9h h]
   ·rename_i e3;rw[if_neg e3]at h
    show ({ x with p:=(z4m x.p d.v d.n).1 }:Wo)=x
    rw[j0W h]
theorem j1o{x:Wo}{i:Nat}{b:Bool}{s:ByteArray}(h:(z2y x i b s).2≠0):(z2y x i b s).1=x:=by
 unfold z2y at h ⊢
 split
 ·rename_i e;rw[if_pos e]at h
  show ({ x with p:=(z3z x.p i (Cd.bs s)).1 }:Wo)=x
  rw[j0w h]
 ·rename_i e;rw[if_neg e]at h
  show ({ x with c:=z2Y x.c i (z3r (x.c i) (Cd.bs s)).1 }:Wo)=x
  rw[j1r h,z7H]
theorem j5p{x:Wo}{i:Nat}{d:Dd}(h:(q1B x i d).2≠0):(q1B x i d).1=x:=by
 unfold q1B at h ⊢
 split
 ·rename_i e;rw[if_pos e]at h
  show ({ x with c:=z2Y x.c i (z3I (x.c i) d.v x.ck).1 }:Wo)=x
  rw[j1e h,z7H]
 ·rename_i e;rw[if_neg e]at h
  show ({ x with c:=z2Y x.c i (z1p (x.c i) d.v d.n x.ck).1 }:Wo)=x
  rw[q4s h,z7H]
theorem j5m{x:Wo}{i:Nat}{b f:Bool}(h:(q1t x i b f).2.2≠0):(q1t x i b f).1=x:=by
 unfold q1t at h ⊢
 split
 ·rename_i e;rw[if_pos e]at h
  split
  ·rename_i e2;rw[if_pos e2]at h;exact absurd rfl h
  ·rename_i e2;exact j1o e2
 ·rfl
theorem j0E{x:Wo}{i:Nat}{d:Dd}(h:(z6Q x i d).2.2≠0):(z6Q x i d).1=x:=by
 unfold z6Q at h ⊢
 split
 ·rename_i e;rw[if_pos e]at h;dsimp only at h ⊢;unfold z5M at h ⊢
  split
  ·rename_i e2;rw[if_pos e2]at h;exact absurd rfl h
  ·rfl
 ·rename_i e;rw[if_neg e]at h
  split
  ·rename_i e2;rw[if_pos e2]at h;exact absurd rfl h
  ·rename_i e2;rw[if_neg e2]at h
   split
   ·rename_i e3;rw[if_pos e3]at h;exact j5m h
   ·rename_i e3;rw[if_neg e3]at h
    split
    ·rename_i e4;rw[if_pos e4]at h;dsimp only at h ⊢;unfold q1s at h ⊢
     split
     ·rename_i e5;rw[if_pos e5]at h;exact absurd rfl h
     ·rfl
    ·rename_i e4;rw[if_neg e4]at h;exact j5p h
theorem q9V{x:Wo}{d:Dd}(h:(z3o x d).2.2≠0):(z3o x d).1=x:=by
 unfold z3o at h ⊢
 split
 ·rename_i e;rw[if_pos e]at h;exact j6I h
 ·rename_i e;rw[if_neg e]at h
  split
  ·unfold z6H
   split
   ·rfl
   ·rename_i e2 e3;rw[if_pos e2]at h;unfold z6H at h;rw[if_neg e3]at h;exact absurd rfl h
  ·rename_i e2;rw[if_neg e2]at h
   split
   ·rename_i e3;rw[if_pos e3]at h;unfold z7x at h ⊢
    split
    ·rename_i e4;rw[if_pos e4]at h;exact absurd rfl h
    ·rfl
   ·rename_i e3;rw[if_neg e3]at h
    split
    ·rename_i e4;rw[if_pos e4]at h;unfold z4j at h ⊢
     split
     ·rename_i e5;rw[if_pos e5]at h
      split
      ·rename_i e6;rw[if_pos e6]at h;exact absurd rfl h
      ·rfl
     ·rfl
    ·rename_i e4;rw[if_neg e4]at h
     split
     ·rename_i e5;rw[if_pos e5]at h
      split
      ·rename_i e6;rw[if_pos e6]at h;exact j0E h
      ·rfl
     ·rfl
theorem j8B{x:Wo}{d:Dd}(h:(doW x d).2.1≠0):(doW x d).2.2=0/\(doW x d).1.ck=x.ck/\(doW x d).1.p=x.p/\(doW x d).1.c=x.c:=by
 unfold doW at h ⊢
 split
 ·exact ⟨rfl,rfl,rfl,rfl⟩
 ·rename_i e;rw[if_neg e]at h;have:=q9V h;dsimp only;rw[if_neg h,this];exact ⟨rfl,rfl,rfl,rfl⟩
theorem j5f{x:Wo}(h:x.dn=600)(d:Dd):doW x d=(x,6,0):=by
 unfold doW;rw[if_pos (by omega)]
theorem j5w{x:Wo}(h:x.dn<600):doW x d0=(z4c x,3,0):=by
 unfold doW;rw[if_neg (by omega)]
 rfl
theorem fg_ok{x:Wo}{i:Nat}{b:Bool}(hl:0<=(z2L x i b).g)(h:(doW x ⟨9,(i:Int),0,0,0,b,true⟩).2.1=0):q2u (z3y (z2L x i b))=z3y (z2L x i b):=by
 unfold doW at h
 split at h
 ·cases h
 ·dsimp only at h;unfold z3o at h;rw[if_neg (by simp),if_neg (by simp),if_neg (by simp),if_neg (by simp),if_pos (by simp)]at h
  split at h
  ·dsimp only at h;unfold z6Q at h;rw[if_neg (by simp),if_neg (by simp),if_pos rfl]at h
   unfold q1t at h;have e:z2L (z4c x) i b=z2L x i b:=by cases b <;> rfl
   have e2:z1a (z4c x) i b true=q2u (z3y (z2L x i b)):=by rw[← e];rfl
   rw[Int.toNat_natCast,e,e2]at h
   split at h
   ·rename_i hd;unfold Ln.z4a at hd
    split at hd
    ·exact absurd hd ‹_›
    ·split at hd
     ·cases hd
     ·split at hd
      ·cases hd
      ·rename_i h9
       have h9a:((z2L x i b).g+1)<=((z2L x i b).S.length:Int):=by
        by_cases q:((z2L x i b).S.length:Int)<(z2L x i b).g+1
        ·exact absurd (Or.inr (Or.inl q)) h9
        ·omega
       have h9b:(z2L x i b).S.getD ((z2L x i b).g+1 - 1).toNat ByteArray.empty=q2u (z3y (z2L x i b)):=by
        by_cases q:(z2L x i b).S.getD ((z2L x i b).g+1 - 1).toNat ByteArray.empty=q2u (z3y (z2L x i b))
        ·exact q
        ·exact absurd (Or.inr (Or.inr q)) h9
       rw[← h9b];unfold z3y;rw[if_neg (by omega),Int.add_sub_cancel]
   ·rename_i hd;exact absurd h hd
  ·cases h
theorem ln_laid{w:World}{u1 u2:Value}{g:Int}{cl:Bool}(h:(#[u1,u2,.int .i64 g,.bool cl]:Array Value).all (·.oneCell')=true):∃ wa,(z3R (.pointer (some ⟨w.heap.size,0,none⟩)) (.agg #[u1,u2,.int .i64 g,.bool cl])).run prog (w.alloc (.cells Z4' 46))=.ok () wa/\CAt 46 wa w.heap.size #[u1,u2,.int .i64 g,.bool cl]/\Below w.heap.size w wa:=by
 have R0:=CAt.new 46 w Z4';exact ⟨_,run_storeAt_mid (P:=prog) _ _ 0 46 #[u1,u2,.int .i64 g,.bool cl] (R0.there 0 _ (Nat.le_refl _)) (by rw[z4L];rfl) h,R0.z0s rfl,z0a (Nat.le_refl _) _ _ _ (znw w _)⟩
theorem ln_again{n:Nat}{w0 w:World}{gl:Nat}{cs:Array Value}(R0:CAt 46 w gl cs)(hs:cs.size=4)(hb:Below n w0 w)(hn:n<=gl){u1 u2:Value}{g:Int}{cl:Bool}(h:(#[u1,u2,.int .i64 g,.bool cl]:Array Value).all (·.oneCell')=true):∃ wa,(z3R (.pointer (some ⟨gl,0,none⟩)) (.agg #[u1,u2,.int .i64 g,.bool cl])).run prog w=.ok () wa/\CAt 46 wa gl #[u1,u2,.int .i64 g,.bool cl]/\Below n w0 wa/\Alt gl w wa:=
 ⟨_,run_storeAt_mid (P:=prog) _ _ 0 46 #[u1,u2,.int .i64 g,.bool cl] (R0.there 0 _ (by rw[hs];exact Nat.le_refl _)) (by rw[z4L];rfl) h,R0.z0s (by rw[hs];rfl),z0a hn _ _ _ hb,(Alt.refl gl w).sets _ _⟩
theorem eqBk(w:World)(b:Bk):(binOp .eql 33 (.agg (bkC b)) (.agg (bkC b))).run prog w=.ok (.bool true) w:=by
 have:=eqB w b.f0 b.f1 b.f2 b.f3 b.bo b.wa b.bu b.f0 b.f1 b.f2 b.f3 b.bo b.wa b.bu;rw[decide_eq_true ⟨rfl,rfl,rfl,rfl,rfl,rfl,rfl⟩]at this;exact this
theorem lw_good{x:Wo}(h:Inv x){i:Nat}(hi:i<2)(b:Bool):Ln.z0T (z2L x i b)=true:=by
 cases b
 ·exact (h.gp.lk i hi).out
 ·exact (h.gc i hi).out
theorem nx_small{x:Wo}(h:Inv x){i:Nat}(hi:i<2)(b:Bool):(z3y (z2L x i b)).size<=100:=by
 have hg:=(z1U _).1 (lw_good h hi b)
 have hs:small (z2L x i b).S:=by
  cases b
  ·exact h.sp i hi
  ·exact h.sc i hi
 unfold z3y
 split
 ·decide
 ·refine hs _ ?_;rw[List.getD_eq_getElem?_getD,List.getElem?_eq_getElem (by omega)]
  exact List.getElem_mem _
noncomputable def fg18C:Code:=j0p [1,1,1,1,1,1,1,1,1,1,1,1,1,0] (f8.body.getD .skip)
theorem pr_bcells{w:World}{g:Nat}{p:Pr}{v:PrV}(h:CAt 56 w g (prC p v)):w.cell? ⟨g,2,none⟩=some (.int .i64 p.s.b.f0)/\w.cell? ⟨g,3,none⟩=some (.int .i64 p.s.b.f1)/\w.cell? ⟨g,4,none⟩=some (.int .i64 p.s.b.f2)/\w.cell? ⟨g,5,none⟩=some (.int .i64 p.s.b.f3)/\w.cell? ⟨g,6,none⟩=some (.int .i64 p.s.b.bo)/\w.cell? ⟨g,7,none⟩=some (.int .i64 p.s.b.wa)/\w.cell? ⟨g,8,none⟩=some (.int .i64 p.s.b.bu):=⟨h.cell 2,h.cell 3,h.cell 4,h.cell 5,h.cell 6,h.cell 7,h.cell 8⟩
set_option maxRecDepth 1000000 in
theorem fg18_0(gp gq n m:Nat)(a c:Int)(A1 A2 A3 A4:Option Addr)(C1 C2 C3 C4:Nat)(bk:Bk)(wl:World)(v0 v2 v3 v4 v5 v6 v7 v8 v11 v12 v13 v14 v15 v18 v19 v20 v21 v22 v23 v24 v25 v26 v27 v28 v29 v30 v31 v32 v33 v34 v35 v36 v37 v38 v39 v40 v41 v42 v43 v44 v45 v46 v47 v48 v49 v50 v51 v52 v53 v54 v55 v56 v57 v58 v59 v60 v61 v62 v63 v64 v65 v66 v67 v68 v69 v70 v71 v72 v73 v74 v75 v76 v77 v78 v79 v80 v81 v82 v83 v84 v85 v86 v87 v88 v89 v90 v91 v92 v93 v94 v95 v96 v97 v98 v99 v100 v101 v102 v103 v104 v105 v106 v107 v108 v109 v110 v111 v112 v113 v114 v115 v116 v117 v118 v119 v120 v121 v122 v123 v124 v125 v126 v127 v128:Value)(Q:Exit->Act->World->Prop)
  (p1:wl.cell? ⟨gq,74,none⟩=some (.int .i64 a)) (p2:wl.cell? ⟨gp,74,none⟩=some (.int .i64 a))
  (p3:wl.cell? ⟨gq,96,none⟩=some (.slice A1 n C1)) (p4:wl.cell? ⟨gp,96,none⟩=some (.slice A2 n C2))
  (p5:wl.cell? ⟨gq+1,16,none⟩=some (.int .i64 c)) (p6:wl.cell? ⟨gp+1,16,none⟩=some (.int .i64 c))
  (p7:wl.cell? ⟨gq+1,6,none⟩=some (.slice A3 m C3)) (p8:wl.cell? ⟨gp+1,6,none⟩=some (.slice A4 m C4))
  (p9:wl.cell? ⟨gq,2,none⟩=some (.int .i64 bk.f0)/\wl.cell? ⟨gq,3,none⟩=some (.int .i64 bk.f1)/\wl.cell? ⟨gq,4,none⟩=some (.int .i64 bk.f2)/\wl.cell? ⟨gq,5,none⟩=some (.int .i64 bk.f3)/\wl.cell? ⟨gq,6,none⟩=some (.int .i64 bk.bo)/\wl.cell? ⟨gq,7,none⟩=some (.int .i64 bk.wa)/\wl.cell? ⟨gq,8,none⟩=some (.int .i64 bk.bu)) (p10:wl.cell? ⟨gp,2,none⟩=some (.int .i64 bk.f0)/\wl.cell? ⟨gp,3,none⟩=some (.int .i64 bk.f1)/\wl.cell? ⟨gp,4,none⟩=some (.int .i64 bk.f2)/\wl.cell? ⟨gp,5,none⟩=some (.int .i64 bk.f3)/\wl.cell? ⟨gp,6,none⟩=some (.int .i64 bk.bo)/\wl.cell? ⟨gp,7,none⟩=some (.int .i64 bk.wa)/\wl.cell? ⟨gp,8,none⟩=some (.int .i64 bk.bu))
  (hQ:∀ (t80 t81 t82 t83 t84 t85 t86 t87 t88 t89 t90 t91 t92 t93 t94 t95 t96 t97 t98 t99 t100 t101 t102 t103 t104 t105 t106 t107 t108 t109 t110 t111 t112 t113 t114 t115 t116 t117 t118 t119 t120 t121 t122 t123 t124 t125 t126 t127 t128:Value) (k:Nat),Q .normal ⟨List.toArray (v0 :: (.int .i64 0) :: v2 :: v3 :: v4 :: v5 :: (.bool true) :: v7 :: v8 :: (.pointer (some ⟨gp,0,none⟩)) :: (.pointer (some ⟨gp+1,0,none⟩)) :: v11 :: v12 :: v13 :: v14 :: v15 :: (.pointer (some ⟨gq,0,none⟩)) :: (.pointer (some ⟨gq+1,0,none⟩)) :: v18 :: v19 :: v20 :: v21 :: v22 :: v23 :: v24 :: v25 :: v26 :: v27 :: v28 :: v29 :: v30 :: v31 :: v32 :: v33 :: v34 :: v35 :: v36 :: v37 :: v38 :: v39 :: v40 :: v41 :: v42 :: v43 :: v44 :: v45 :: v46 :: v47 :: v48 :: v49 :: v50 :: v51 :: v52 :: v53 :: v54 :: v55 :: v56 :: v57 :: v58 :: v59 :: v60 :: v61 :: v62 :: v63 :: v64 :: v65 :: v66 :: v67 :: v68 :: v69 :: v70 :: v71 :: v72 :: v73 :: v74 :: v75 :: v76 :: v77 :: v78 :: v79 :: (t80) :: (t81) :: (t82) :: (t83) :: (t84) :: (t85) :: (t86) :: (t87) :: (t88) :: (t89) :: (t90) :: (t91) :: (t92) :: (t93) :: (t94) :: (t95) :: (t96) :: (t97) :: (t98) :: (t99) :: (t100) :: (t101) :: (t102) :: (t103) :: (t104) :: (t105) :: (t106) :: (t107) :: (t108) :: (t109) :: (t110) :: (t111) :: (t112) :: (t113) :: (t114) :: (t115) :: (t116) :: (t117) :: (t118) :: (t119) :: (t120) :: (t121) :: (t122) :: (t123) :: (t124) :: (t125) :: (t126) :: (t127) :: (t128) :: []),[]⟩ (wl.drewN k)) :
  Code.wp prog fg18C Q ⟨List.toArray (v0 :: (.int .i64 0) :: v2 :: v3 :: v4 :: v5 :: v6 :: v7 :: v8 :: (.pointer (some ⟨gp,0,none⟩)) :: (.pointer (some ⟨gp+1,0,none⟩)) :: v11 :: v12 :: v13 :: v14 :: v15 :: (.pointer (some ⟨gq,0,none⟩)) :: (.pointer (some ⟨gq+1,0,none⟩)) :: v18 :: v19 :: v20 :: v21 :: v22 :: v23 :: v24 :: v25 :: v26 :: v27 :: v28 :: v29 :: v30 :: v31 :: v32 :: v33 :: v34 :: v35 :: v36 :: v37 :: v38 :: v39 :: v40 :: v41 :: v42 :: v43 :: v44 :: v45 :: v46 :: v47 :: v48 :: v49 :: v50 :: v51 :: v52 :: v53 :: v54 :: v55 :: v56 :: v57 :: v58 :: v59 :: v60 :: v61 :: v62 :: v63 :: v64 :: v65 :: v66 :: v67 :: v68 :: v69 :: v70 :: v71 :: v72 :: v73 :: v74 :: v75 :: v76 :: v77 :: v78 :: v79 :: v80 :: v81 :: v82 :: v83 :: v84 :: v85 :: v86 :: v87 :: v88 :: v89 :: v90 :: v91 :: v92 :: v93 :: v94 :: v95 :: v96 :: v97 :: v98 :: v99 :: v100 :: v101 :: v102 :: v103 :: v104 :: v105 :: v106 :: v107 :: v108 :: v109 :: v110 :: v111 :: v112 :: v113 :: v114 :: v115 :: v116 :: v117 :: v118 :: v119 :: v120 :: v121 :: v122 :: v123 :: v124 :: v125 :: v126 :: v127 :: v128 :: []),[]⟩ wl:=by
 have HK:=hide hQ;obtain ⟨b0,b1,b2,b3,b4,b5,b6⟩:=p9;obtain ⟨d0,d1,d2,d3,d4,d5,d6⟩:=p10;have n3:∀ w,(binOp .eql 33 (.agg #[.int .i64 bk.f0,.int .i64 bk.f1,.int .i64 bk.f2,.int .i64 bk.f3,.int .i64 bk.bo,.int .i64 bk.wa,.int .i64 bk.bu]) (.agg #[.int .i64 bk.f0,.int .i64 bk.f1,.int .i64 bk.f2,.int .i64 bk.f3,.int .i64 bk.bo,.int .i64 bk.wa,.int .i64 bk.bu])).run prog w=.ok (.bool true) w:=fun w=>eqBk w bk;clear hQ
 conv=>arg 2;whnf
 go_quiet (fail);exact HK.out _ _ _ _ _ _ _ _ _ _ _ _ _ _ _ _ _ _ _ _ _ _ _ _ _ _ _ _ _ _ _ _ _ _ _ _ _ _ _ _ _ _ _ _ _ _ _ _ _ _
set_option maxRecDepth 1000000 in
theorem fg18_1(gp gq n m:Nat)(a c:Int)(A1 A2 A3 A4:Option Addr)(C1 C2 C3 C4:Nat)(bk:Bk)(wl:World)(v0 v2 v3 v4 v5 v6 v7 v8 v11 v12 v13 v14 v15 v18 v19 v20 v21 v22 v23 v24 v25 v26 v27 v28 v29 v30 v31 v32 v33 v34 v35 v36 v37 v38 v39 v40 v41 v42 v43 v44 v45 v46 v47 v48 v49 v50 v51 v52 v53 v54 v55 v56 v57 v58 v59 v60 v61 v62 v63 v64 v65 v66 v67 v68 v69 v70 v71 v72 v73 v74 v75 v76 v77 v78 v79 v80 v81 v82 v83 v84 v85 v86 v87 v88 v89 v90 v91 v92 v93 v94 v95 v96 v97 v98 v99 v100 v101 v102 v103 v104 v105 v106 v107 v108 v109 v110 v111 v112 v113 v114 v115 v116 v117 v118 v119 v120 v121 v122 v123 v124 v125 v126 v127 v128:Value)(Q:Exit->Act->World->Prop)
  (p1:wl.cell? ⟨gq,88,none⟩=some (.int .i64 a)) (p2:wl.cell? ⟨gp,88,none⟩=some (.int .i64 a))
  (p3:wl.cell? ⟨gq,96,none⟩=some (.slice A1 n C1)) (p4:wl.cell? ⟨gp,96,none⟩=some (.slice A2 n C2))
  (p5:wl.cell? ⟨gq+1,16,none⟩=some (.int .i64 c)) (p6:wl.cell? ⟨gp+1,16,none⟩=some (.int .i64 c))
  (p7:wl.cell? ⟨gq+1,6,none⟩=some (.slice A3 m C3)) (p8:wl.cell? ⟨gp+1,6,none⟩=some (.slice A4 m C4))
  (p9:wl.cell? ⟨gq,2,none⟩=some (.int .i64 bk.f0)/\wl.cell? ⟨gq,3,none⟩=some (.int .i64 bk.f1)/\wl.cell? ⟨gq,4,none⟩=some (.int .i64 bk.f2)/\wl.cell? ⟨gq,5,none⟩=some (.int .i64 bk.f3)/\wl.cell? ⟨gq,6,none⟩=some (.int .i64 bk.bo)/\wl.cell? ⟨gq,7,none⟩=some (.int .i64 bk.wa)/\wl.cell? ⟨gq,8,none⟩=some (.int .i64 bk.bu)) (p10:wl.cell? ⟨gp,2,none⟩=some (.int .i64 bk.f0)/\wl.cell? ⟨gp,3,none⟩=some (.int .i64 bk.f1)/\wl.cell? ⟨gp,4,none⟩=some (.int .i64 bk.f2)/\wl.cell? ⟨gp,5,none⟩=some (.int .i64 bk.f3)/\wl.cell? ⟨gp,6,none⟩=some (.int .i64 bk.bo)/\wl.cell? ⟨gp,7,none⟩=some (.int .i64 bk.wa)/\wl.cell? ⟨gp,8,none⟩=some (.int .i64 bk.bu))
  (hQ:∀ (t80 t81 t82 t83 t84 t85 t86 t87 t88 t89 t90 t91 t92 t93 t94 t95 t96 t97 t98 t99 t100 t101 t102 t103 t104 t105 t106 t107 t108 t109 t110 t111 t112 t113 t114 t115 t116 t117 t118 t119 t120 t121 t122 t123 t124 t125 t126 t127 t128:Value) (k:Nat),Q .normal ⟨List.toArray (v0 :: (.int .i64 1) :: v2 :: v3 :: v4 :: v5 :: (.bool true) :: v7 :: v8 :: (.pointer (some ⟨gp,0,none⟩)) :: (.pointer (some ⟨gp+1,0,none⟩)) :: v11 :: v12 :: v13 :: v14 :: v15 :: (.pointer (some ⟨gq,0,none⟩)) :: (.pointer (some ⟨gq+1,0,none⟩)) :: v18 :: v19 :: v20 :: v21 :: v22 :: v23 :: v24 :: v25 :: v26 :: v27 :: v28 :: v29 :: v30 :: v31 :: v32 :: v33 :: v34 :: v35 :: v36 :: v37 :: v38 :: v39 :: v40 :: v41 :: v42 :: v43 :: v44 :: v45 :: v46 :: v47 :: v48 :: v49 :: v50 :: v51 :: v52 :: v53 :: v54 :: v55 :: v56 :: v57 :: v58 :: v59 :: v60 :: v61 :: v62 :: v63 :: v64 :: v65 :: v66 :: v67 :: v68 :: v69 :: v70 :: v71 :: v72 :: v73 :: v74 :: v75 :: v76 :: v77 :: v78 :: v79 :: (t80) :: (t81) :: (t82) :: (t83) :: (t84) :: (t85) :: (t86) :: (t87) :: (t88) :: (t89) :: (t90) :: (t91) :: (t92) :: (t93) :: (t94) :: (t95) :: (t96) :: (t97) :: (t98) :: (t99) :: (t100) :: (t101) :: (t102) :: (t103) :: (t104) :: (t105) :: (t106) :: (t107) :: (t108) :: (t109) :: (t110) :: (t111) :: (t112) :: (t113) :: (t114) :: (t115) :: (t116) :: (t117) :: (t118) :: (t119) :: (t120) :: (t121) :: (t122) :: (t123) :: (t124) :: (t125) :: (t126) :: (t127) :: (t128) :: []),[]⟩ (wl.drewN k)) :
  Code.wp prog fg18C Q ⟨List.toArray (v0 :: (.int .i64 1) :: v2 :: v3 :: v4 :: v5 :: v6 :: v7 :: v8 :: (.pointer (some ⟨gp,0,none⟩)) :: (.pointer (some ⟨gp+1,0,none⟩)) :: v11 :: v12 :: v13 :: v14 :: v15 :: (.pointer (some ⟨gq,0,none⟩)) :: (.pointer (some ⟨gq+1,0,none⟩)) :: v18 :: v19 :: v20 :: v21 :: v22 :: v23 :: v24 :: v25 :: v26 :: v27 :: v28 :: v29 :: v30 :: v31 :: v32 :: v33 :: v34 :: v35 :: v36 :: v37 :: v38 :: v39 :: v40 :: v41 :: v42 :: v43 :: v44 :: v45 :: v46 :: v47 :: v48 :: v49 :: v50 :: v51 :: v52 :: v53 :: v54 :: v55 :: v56 :: v57 :: v58 :: v59 :: v60 :: v61 :: v62 :: v63 :: v64 :: v65 :: v66 :: v67 :: v68 :: v69 :: v70 :: v71 :: v72 :: v73 :: v74 :: v75 :: v76 :: v77 :: v78 :: v79 :: v80 :: v81 :: v82 :: v83 :: v84 :: v85 :: v86 :: v87 :: v88 :: v89 :: v90 :: v91 :: v92 :: v93 :: v94 :: v95 :: v96 :: v97 :: v98 :: v99 :: v100 :: v101 :: v102 :: v103 :: v104 :: v105 :: v106 :: v107 :: v108 :: v109 :: v110 :: v111 :: v112 :: v113 :: v114 :: v115 :: v116 :: v117 :: v118 :: v119 :: v120 :: v121 :: v122 :: v123 :: v124 :: v125 :: v126 :: v127 :: v128 :: []),[]⟩ wl:=by
 have HK:=hide hQ;obtain ⟨b0,b1,b2,b3,b4,b5,b6⟩:=p9;obtain ⟨d0,d1,d2,d3,d4,d5,d6⟩:=p10;have n3:∀ w,(binOp .eql 33 (.agg #[.int .i64 bk.f0,.int .i64 bk.f1,.int .i64 bk.f2,.int .i64 bk.f3,.int .i64 bk.bo,.int .i64 bk.wa,.int .i64 bk.bu]) (.agg #[.int .i64 bk.f0,.int .i64 bk.f1,.int .i64 bk.f2,.int .i64 bk.f3,.int .i64 bk.bo,.int .i64 bk.wa,.int .i64 bk.bu])).run prog w=.ok (.bool true) w:=fun w=>eqBk w bk;clear hQ
 conv=>arg 2;whnf
 go_quiet (fail);exact HK.out _ _ _ _ _ _ _ _ _ _ _ _ _ _ _ _ _ _ _ _ _ _ _ _ _ _ _ _ _ _ _ _ _ _ _ _ _ _ _ _ _ _ _ _ _ _ _ _ _ _
end Wd
namespace Wd
open Go.RowKit Pv Kc
attribute [local go_sem ↓] z0F z0v z1n z1e z2T z2t
theorem pr_lns{w:World}{g:Nat}{p:Pr}{v:PrV}(h:CAt 56 w g (prC p v)):(z2C (.pointer (some ⟨g,72,none⟩))).run prog w=.ok (.agg #[(v.l 0).said,(v.l 0).due,.int .i64 (p.L 0).out.g,.bool (p.L 0).out.cl]) w/\(z2C (.pointer (some ⟨g,86,none⟩))).run prog w=.ok (.agg #[(v.l 1).said,(v.l 1).due,.int .i64 (p.L 1).out.g,.bool (p.L 1).out.cl]) w:=
 ⟨z7Q (cs:=lnL (p.L 0).out (v.l 0).said (v.l 0).due) (h.part fun j x hx=>by
  have hj:j<4:=(List.getElem?_eq_some_iff.1 hx).1
  rcases (show j=0∨j=1∨j=2∨j=3 by omega) with rfl | rfl | rfl | rfl <;> exact hx) rfl,z7Q (cs:=lnL (p.L 1).out (v.l 1).said (v.l 1).due) (h.part fun j x hx=>by
  have hj:j<4:=(List.getElem?_eq_some_iff.1 hx).1
  rcases (show j=0∨j=1∨j=2∨j=3 by omega) with rfl | rfl | rfl | rfl <;> exact hx) rfl⟩
theorem cs_ln{w:World}{g:Nat}{c:Cs}{v:CsV}(h:CAt 66 w g (csC c v)):(z2C (.pointer (some ⟨g,14,none⟩))).run prog w=.ok (.agg #[v.said,v.due,.int .i64 c.out.g,.bool c.out.cl]) w:=
 z7Q (cs:=lnL c.out v.said v.due) (h.part fun j x hx=>by
  have hj:j<4:=(List.getElem?_eq_some_iff.1 hx).1
  rcases (show j=0∨j=1∨j=2∨j=3 by omega) with rfl | rfl | rfl | rfl <;> exact hx) rfl
theorem q_len{P:Nat->Prop}{w:World}{p:Pr}{v:PrV}(h:PIn P w p v):∃ A C,v.q=.slice A p.q.length C:=by
 obtain ⟨z,hzl,hzr,-⟩:=id h.q;obtain ⟨A,C,e,-⟩:=hzr.open (z1y _ _ hzl) (by decide)
 exact ⟨A,C,e⟩
theorem pd_len{P:Nat->Prop}{w:World}{c:Cs}{v:CsV}(h:CIn P w c v):∃ A C,v.pd=.slice A c.pd.length C:=by
 obtain ⟨z,hzl,hzr,-⟩:=id h.pd;obtain ⟨A,C,e,-⟩:=hzr.open (z1x _ _ hzl) (by decide)
 exact ⟨A,C,e⟩
set_option maxRecDepth 100000 in
theorem ltforged_0(A:Option Addr)(C b off:Nat)(l:List Dd)(c:Int)(bk:Bool)(w:World)(hc:c=0∨c<0∨(2<=c/\¬ c<0))(hD:q2A w A b off l) :
  Calls prog 8 #[.slice A l.length C,.int .i64 c,.bool bk] w fun e w'=>e=.returned (.bool true)/\Below w.heap.size w w':=by
 have HPL:=hide (q6N A C b off l w hD);clear hD;generalize hx0:stW l (min l.length 120)=x at *;clear hx0
 go_enter func8,ntmps8
 go_upto_region 4 with (go_at_call 9;refine HPL.out.mono ?_;rintro e w1 ⟨g,rfl,S1,b1⟩;have hg1:=S1.lt;have hg0:=S1.le;have H1:=hide (show _/\_ from ⟨S1,b1⟩);clear S1 b1)
 clear HPL;have HP:=hide (z3D _ g x w1 H1.out.1);have HC0:=hide (fun (wx:World) (hb:Below w1.heap.size w1 wx)=>z4v _ g x wx (H1.out.1.over hb));have HFG:=hide (fun (bb:Bool) (h:(doW x ⟨9,((0:Nat):Int),0,0,0,bb,true⟩).2.1=0)=>fg_ok (x:=x) (i:=0) (b:=bb) ((z1U _).1 (lw_good H1.out.1.inv (by omega) bb)).2.2.2.1 h)
 have HNX:=hide (fun (bb:Bool)=>nx_small H1.out.1.inv (i:=0) (by omega) bb)
 have HLG:=hide (fun (bb:Bool)=>(z1U _).1 (lw_good H1.out.1.inv (i:=0) (by omega) bb))
 rcases hc with rfl | h1 | ⟨h1,h2⟩
 all_goals
  go_upto_region 7 with (first
   | (go_at_call 11;refine HP.out.mono ?_;rintro e w2 ⟨v1,rfl,I1,b2⟩;have HI1:=hide I1;have HB2:=hide b2;clear I1 b2)
   | (go_at_call 15;refine (HC0.out _ HB2.out).mono ?_;rintro e w3 ⟨v2,rfl,I2,b3⟩;obtain ⟨wa,wb,s1,s2,R1,R2,bc⟩:=j5Q (HI1.out.over b3) I2;unfold Z22 at s1;have HB3:=hide (zbt HB2.out b3);have H5:=hide (show _/\_/\_ from ⟨PLk.mk (n:=w1.heap.size) R1 (HI1.out.over b3) bc (by omega) HB3.out.size,CLk.mk (n:=w1.heap.size) R2 I2 bc (by have:=HB2.out.size;omega) (by have:=HB3.out.size;omega),zbt HB3.out bc⟩);clear I2 b3 R1 R2 bc))
  clear s1 s2 HI1 HP HC0 HB2 HB3;generalize hgp:w3.heap.size=gp at *;clear hgp;have l7:=(pr_lns H5.out.1.1).1;have I5:=H5.out.1.2.1.mono (P':=fun b=>w1.heap.size<=b/\b<wb.heap.size) fun b hl hp=>⟨hp,hl⟩;have J5:=H5.out.2.1.2.1.mono (P':=fun b=>w1.heap.size<=b/\b<wb.heap.size) fun b hl hp=>⟨hp,hl⟩;have hlk:=I5.lk 0 (by omega)
  obtain ⟨wd,s7,R7,b7⟩:=ln_laid (w:=wb) (z2S hlk.said hlk.due (x.p.L 0).out.g (x.p.L 0).out.cl);unfold Z4' at s7;have hz7:=H5.out.1.lt;have hz8:=H5.out.2.1.lt;have hzg:=H5.out.2.2.size;have hz9:=H5.out.1.2.2;have H7:=hide (show _/\_/\_/\_/\_/\_ from ⟨H5.out.1.1.over b7,I5.over b7,H5.out.2.1.1.over b7,J5.over b7,zbt H5.out.2.2 b7,R7⟩);clear R7 b7 hlk H5 I5 J5
  go_upto_region 8 with fail
  clear l7 s7;generalize hgl:wb.heap.size=gl at *;clear hgl;cases bk;obtain ⟨ln,hln⟩:∃ ln,ln=z2L x 0 false:=⟨_,rfl⟩
  have HQ:Hid (PLk w1.heap.size wd gp x.p v1/\CLk w1.heap.size wd (gp+1) (x.c 0) v2/\Below w1.heap.size w1 wd/\∃ u1 u2,CAt 46 wd gl #[u1,u2,.int .i64 ln.g,.bool ln.cl]/\z0I (fun b=>w1.heap.size<=b) wd u1 1 16 (txC ln.S)):=by
   subst hln;exact ⟨⟨H7.out.1,H7.out.2.1.mono fun _ _ hp=>hp.1,hz9⟩,⟨H7.out.2.2.1,H7.out.2.2.2.1.mono fun _ _ hp=>hp.1,by omega⟩,H7.out.2.2.2.2.1,_,_,H7.out.2.2.2.2.2,(H7.out.2.1.lk 0 (by omega)).said.mono fun _ _ hp=>hp.1⟩
  have HFG1:=hide (HFG.out false);have HNX1:=hide (HNX.out false);have HLG1:=hide (HLG.out false);have HDO:=hide (fun (wx:World) (hb:Below w1.heap.size w1 wx)=>z4N _ g x ⟨9,0,0,0,0,false,true⟩ wx (H1.out.1.over hb));have HRF:=hide (fun h=>j8B (x:=x) (d:=⟨9,0,0,0,0,false,true⟩) h);change Hid ((doW x ⟨9,0,0,0,0,false,true⟩).2.1=0->_) at HFG1;rw[← hln]at HFG1 HNX1 HLG1;generalize doW x ⟨9,0,0,0,0,false,true⟩=rr at *;clear hln HFG HNX HLG H7
  go_upto_region 11 with fail
  generalize wd=wq at *
  rotate_left
  obtain ⟨ln,hln⟩:∃ ln,ln=z2L x 0 true:=⟨_,rfl⟩;have l9:=cs_ln H7.out.2.2.1;obtain ⟨wq,s9,R9,b9,ag⟩:=ln_again (w0:=w1) (n:=w1.heap.size) H7.out.2.2.2.2.2 rfl H7.out.2.2.2.2.1 (by omega) (z2S H7.out.2.2.2.1.said H7.out.2.2.2.1.due (x.c 0).out.g (x.c 0).out.cl)
  have hz10:=H7.out.2.2.2.2.2.lt;have hz11:=H7.out.1.lt;have hz12:=H7.out.2.2.1.lt
  have HQ:Hid (PLk w1.heap.size wq gp x.p v1/\CLk w1.heap.size wq (gp+1) (x.c 0) v2/\Below w1.heap.size w1 wq/\∃ u1 u2,CAt 46 wq gl #[u1,u2,.int .i64 ln.g,.bool ln.cl]/\z0I (fun b=>w1.heap.size<=b) wq u1 1 16 (txC ln.S)):=by
   subst hln;have cI:=H7.out.2.2.2.1.keep (w':=wq) fun b hb hl=>ag.block b hl (by omega)
   exact ⟨⟨ag.cat (by omega) H7.out.1,(H7.out.2.1.keep (w':=wq) fun b hb hl=>ag.block b hl (by omega)).mono fun _ _ hp=>hp.1,hz9⟩,⟨ag.cat (by omega) H7.out.2.2.1,cI.mono fun _ _ hp=>hp.1,by omega⟩,b9,_,_,R9,cI.said.mono fun _ _ hp=>hp.1⟩
  have HFG1:=hide (HFG.out true);have HNX1:=hide (HNX.out true);have HLG1:=hide (HLG.out true);have HDO:=hide (fun (wx:World) (hb:Below w1.heap.size w1 wx)=>z4N _ g x ⟨9,0,0,0,0,true,true⟩ wx (H1.out.1.over hb));have HRF:=hide (fun h=>j8B (x:=x) (d:=⟨9,0,0,0,0,true,true⟩) h);change Hid ((doW x ⟨9,0,0,0,0,true,true⟩).2.1=0->_) at HFG1;rw[← hln]at HFG1 HNX1 HLG1;generalize doW x ⟨9,0,0,0,0,true,true⟩=rr at *;clear hln HFG HNX HLG H7
  go_upto_region 11 with fail
  clear l9 s9 R9 b9 ag hz10 hz11 hz12
  all_goals
   obtain ⟨x',rc,rn⟩:=rr;dsimp only at HDO HRF HFG1;obtain ⟨u1,u2,R1,U1⟩:=HQ.out.2.2.2;obtain ⟨A1,C1,rfl,hle1,f1⟩:=q9R U1 (Below.refl _ _);have HR1:=hide R1;have HQ1:=hide (show _/\_/\_ from ⟨HQ.out.1,HQ.out.2.1,HQ.out.2.2.1⟩);have a0:wq.cell? ⟨gl,0,none⟩=some (.slice A1 ln.S.length C1):=R1.cell 0;have a2:wq.cell? ⟨gl,2,none⟩=some (.int .i64 ln.g):=R1.cell 2;have hzl:=R1.lt;obtain ⟨k,hk⟩:∃ k:Nat,ln.g=(k:Int):=⟨ln.g.toNat,by have:=HLG1.out.2.2.2.1;omega⟩
   rw[hk]at a2
   have hns:z3y ln=if ln.S.length<=k then ByteArray.empty else ln.S.getD k ByteArray.empty:=by
    unfold z3y;rw[hk,Int.toNat_natCast]
    by_cases q:ln.S.length<=k
    ·rw[if_pos (by omega),if_pos q]
    ·rw[if_neg (by omega),if_neg q]
   have HEN:=hide (fun (s:ByteArray) (wx:World)=>Cd.z6g 3 1 0 ((s.size:Int)+1) [] [] none none 0 0 0 0 0 0 wx ⟨by simp,by simp,fun h=>absurd h (by simp),fun h=>absurd h (by simp),fun i h=>absurd h (by simp),fun i h=>absurd h (by simp)⟩)
   have hw:=fun (s:ByteArray) (h:s.size<=100)=>(show IntKind.i64.wrap (1+(s.size:Int))=(s.size:Int)+1 by rw[Int.add_comm];exact z7V (by omega) (by omega))
   clear R1 U1 HQ
   by_cases hlt:k<ln.S.length
   rw[if_neg (by omega)]at hns
   have hltI:(k:Int)<(ln.S.length:Int):=by omega
   obtain ⟨bl,ol,rfl,c0⟩:=f1 k hlt;rw[← hns]at c0;clear hns f1;have hwx:=hw _ HNX1.out;have HE1:=hide (HEN.out (z3y ln));have hFx:Hid (rc=0->q2u (z3y ln)=z3y ln):=HFG1.out;unfold q2u at hFx;clear hw HEN HFG1 HNX1 HLG1 hk;generalize z3y ln=nx at *
   go_upto_region 13 with fail
   rotate_left
   rw[if_pos (by omega)]at hns
   have hltI:¬ (k:Int)<(ln.S.length:Int):=by omega
   have hwx:=hw _ HNX1.out;have HE1:=hide (HEN.out (z3y ln));have hFx:Hid (rc=0->q2u (z3y ln)=z3y ln):=HFG1.out;unfold q2u at hFx;clear hw HEN HFG1 HNX1 HLG1 hk f1;rw[hns]at hwx HE1 hFx;rw[show ByteArray.empty=ByteArray.mk #[] from rfl]at hwx HE1 hFx
   go_upto_region 13 with fail
   generalize ByteArray.mk #[]=nx at *
   all_goals
    generalize Cd.encS 3 1 0 ((nx.size:Int)+1) [] []=E at *;generalize Cd.z0t 3 1 0 ((nx.size:Int)+1) [] []=N at *
    try clear c0
    clear a0 a2 hzl
    go_upto_region 15 with (first
     | (go_at_call 25;refine (HE1.out _).mono ?_;rintro e w6 ⟨rfl,b6⟩;have HQ6:=hide (show _/\_/\_ from ⟨HQ1.out.1.over b6,HQ1.out.2.1.over b6,zbt HQ1.out.2.2 b6⟩);clear b6)
     | (go_at_call 21;refine (HDO.out _ HQ6.out.2.2).mono ?_;rintro e w7 ⟨rfl,S7,a7⟩;have H8:=hide (show _/\_/\_/\_ from ⟨HQ6.out.1.alt a7 hg1,HQ6.out.2.1.alt a7 hg1,S7,z6a (by omega) (zbt H1.out.2 HQ6.out.2.2) a7⟩);clear S7 a7))
    clear HE1 HDO HQ6 HQ1 H1 HR1 hwx;have R9:CAt 30 (w7.alloc (.cells #[.int .i64 rc,.int .i64 rn] 30)) w7.heap.size #[.int .i64 rc,.int .i64 rn]:=CAt.new _ w7 _;have b9:Below w7.heap.size w7 (w7.alloc (.cells #[.int .i64 rc,.int .i64 rn] 30)):=znw w7 _;have H9:=hide (show _/\_/\_/\_ from ⟨H8.out.1.over b9,H8.out.2.1.over b9,H8.out.2.2.1.over b9,zbt H8.out.2.2.2 b9⟩);have r0:(w7.alloc (.cells #[.int .i64 rc,.int .i64 rn] 30)).cell? ⟨w7.heap.size,0,none⟩=some (.int .i64 rc):=R9.cell 0;have zr:=R9.lt;clear b9 H8 R9;generalize w7.alloc (.cells #[.int .i64 rc,.int .i64 rn] 30)=w8 at *;generalize hgr:w7.heap.size=gr at *;clear hgr
    by_cases hrc:rc=0
    case pos =>
     have hE:=hFx.out hrc;subst hE;subst hrc;go_wp2;go_ret;exact ⟨rfl,H9.out.2.2.2⟩
    obtain ⟨rfl,-,hp,hc⟩:=HRF.out hrc;clear HRF hFx;have HP:=hide (z3D _ g x' w8 H9.out.2.2.1);have HC0:=hide (fun (wx:World) (hb:Below w8.heap.size w8 wx)=>z4v _ g x' wx (H9.out.2.2.1.over hb));rw[hp]at HP;rw[hc]at HC0;clear hp hc
    go_upto_region 18 with (first
     | (go_at_call 11;refine HP.out.mono ?_;rintro e w9 ⟨y1,rfl,I1,b2⟩;have HI1:=hide I1;have HB2:=hide b2;clear I1 b2)
     | (go_at_call 15;refine (HC0.out _ HB2.out).mono ?_;rintro e wu ⟨y2,rfl,I2,b3⟩;obtain ⟨wv,wz,s1,s2,R1,R2,bc⟩:=j5Q (HI1.out.over b3) I2;unfold Z22 at s1;have HB3:=hide (zbt HB2.out b3);have HX:=hide (show _/\_/\_ from ⟨PLk.mk (n:=w8.heap.size) R1 (HI1.out.over b3) bc (by omega) HB3.out.size,CLk.mk (n:=w8.heap.size) R2 I2 bc (by have:=HB2.out.size;omega) (by have:=HB3.out.size;omega),zbt HB3.out bc⟩);clear I2 b3 R1 R2 bc))
    clear s1 s2 HI1 HP HC0 HB2 HB3 r0 zr;generalize hgq:wu.heap.size=gq at *;clear hgq;have HOP:=H9.out.1.over HX.out.2.2;have HOC:=H9.out.2.1.over HX.out.2.2;obtain ⟨B1,D1,e1⟩:=q_len HX.out.1.2.1;obtain ⟨B2,D2,e2⟩:=q_len HOP.2.1;obtain ⟨B3,D3,e3⟩:=pd_len HX.out.2.1.2.1;obtain ⟨B4,D4,e4⟩:=pd_len HOC.2.1;have p1:wz.cell? ⟨gq,74,none⟩=some (.int .i64 (x.p.L 0).out.g):=HX.out.1.1.cell 74;have p2:wz.cell? ⟨gp,74,none⟩=some (.int .i64 (x.p.L 0).out.g):=HOP.1.cell 74;have p3:wz.cell? ⟨gq,96,none⟩=some y1.q:=HX.out.1.1.cell 96;have p4:wz.cell? ⟨gp,96,none⟩=some v1.q:=HOP.1.cell 96;have p5:wz.cell? ⟨gq+1,16,none⟩=some (.int .i64 (x.c 0).out.g):=HX.out.2.1.1.cell 16;have p6:wz.cell? ⟨gp+1,16,none⟩=some (.int .i64 (x.c 0).out.g):=HOC.1.cell 16;have p7:wz.cell? ⟨gq+1,6,none⟩=some y2.pd:=HX.out.2.1.1.cell 6;have p8:wz.cell? ⟨gp+1,6,none⟩=some v2.pd:=HOC.1.cell 6;have p9:=pr_bcells HX.out.1.1;have p10:=pr_bcells HOP.1;rw[e1]at p3;rw[e2]at p4;rw[e3]at p7;rw[e4]at p8;have HZ:=hide (zbt H9.out.2.2.2 HX.out.2.2);clear HOP HOC e1 e2 e3 e4 H9 HX;refine fg18_0 gp gq _ _ _ _ _ _ _ _ _ _ _ _ x.p.s.b wz _ _ _ _ _ _ _ _ _ _ _ _ _ _ _ _ _ _ _ _ _ _ _ _ _ _ _ _ _ _ _ _ _ _ _ _ _ _ _ _ _ _ _ _ _ _ _ _ _ _ _ _ _ _ _ _ _ _ _ _ _ _ _ _ _ _ _ _ _ _ _ _ _ _ _ _ _ _ _ _ _ _ _ _ _ _ _ _ _ _ _ _ _ _ _ _ _ _ _ _ _ _ _ _ _ _ _ _ _ _ _ _ _ _ _ _ _ _ _ _ _ _ _ _ _ p1 p2 p3 p4 p5 p6 p7 p8 p9 p10 ?_;intro t80 t81 t82 t83 t84 t85 t86 t87 t88 t89 t90 t91 t92 t93 t94 t95 t96 t97 t98 t99 t100 t101 t102 t103 t104 t105 t106 t107 t108 t109 t110 t111 t112 t113 t114 t115 t116 t117 t118 t119 t120 t121 t122 t123 t124 t125 t126 t127 t128 nq;clear p1 p2 p3 p4 p5 p6 p7 p8 p9 p10;simp only[Exit.then];apply_assumption;go_wp2;go_ret;exact ⟨rfl,HZ.out.os,HZ.out.tape,HZ.out.output,HZ.out.size,HZ.out.block⟩
set_option maxRecDepth 100000 in
theorem ltforged_1(A:Option Addr)(C b off:Nat)(l:List Dd)(c:Int)(bk:Bool)(w:World)(hc:c=1)(hD:q2A w A b off l) :
  Calls prog 8 #[.slice A l.length C,.int .i64 c,.bool bk] w fun e w'=>e=.returned (.bool true)/\Below w.heap.size w w':=by
 have HPL:=hide (q6N A C b off l w hD);clear hD;generalize hx0:stW l (min l.length 120)=x at *;clear hx0
 go_enter func8,ntmps8
 go_upto_region 4 with (go_at_call 9;refine HPL.out.mono ?_;rintro e w1 ⟨g,rfl,S1,b1⟩;have hg1:=S1.lt;have hg0:=S1.le;have H1:=hide (show _/\_ from ⟨S1,b1⟩);clear S1 b1)
 clear HPL;have HP:=hide (z3D _ g x w1 H1.out.1);have HC0:=hide (fun (wx:World) (hb:Below w1.heap.size w1 wx)=>z8T _ g x wx (H1.out.1.over hb));have HFG:=hide (fun (bb:Bool) (h:(doW x ⟨9,((1:Nat):Int),0,0,0,bb,true⟩).2.1=0)=>fg_ok (x:=x) (i:=1) (b:=bb) ((z1U _).1 (lw_good H1.out.1.inv (by omega) bb)).2.2.2.1 h)
 have HNX:=hide (fun (bb:Bool)=>nx_small H1.out.1.inv (i:=1) (by omega) bb)
 have HLG:=hide (fun (bb:Bool)=>(z1U _).1 (lw_good H1.out.1.inv (i:=1) (by omega) bb))
 subst hc
 all_goals
  go_upto_region 7 with (first
   | (go_at_call 11;refine HP.out.mono ?_;rintro e w2 ⟨v1,rfl,I1,b2⟩;have HI1:=hide I1;have HB2:=hide b2;clear I1 b2)
   | (go_at_call 15;refine (HC0.out _ HB2.out).mono ?_;rintro e w3 ⟨v2,rfl,I2,b3⟩;obtain ⟨wa,wb,s1,s2,R1,R2,bc⟩:=j5Q (HI1.out.over b3) I2;unfold Z22 at s1;have HB3:=hide (zbt HB2.out b3);have H5:=hide (show _/\_/\_ from ⟨PLk.mk (n:=w1.heap.size) R1 (HI1.out.over b3) bc (by omega) HB3.out.size,CLk.mk (n:=w1.heap.size) R2 I2 bc (by have:=HB2.out.size;omega) (by have:=HB3.out.size;omega),zbt HB3.out bc⟩);clear I2 b3 R1 R2 bc))
  clear s1 s2 HI1 HP HC0 HB2 HB3;generalize hgp:w3.heap.size=gp at *;clear hgp;have l7:=(pr_lns H5.out.1.1).2;have I5:=H5.out.1.2.1.mono (P':=fun b=>w1.heap.size<=b/\b<wb.heap.size) fun b hl hp=>⟨hp,hl⟩;have J5:=H5.out.2.1.2.1.mono (P':=fun b=>w1.heap.size<=b/\b<wb.heap.size) fun b hl hp=>⟨hp,hl⟩;have hlk:=I5.lk 1 (by omega)
  obtain ⟨wd,s7,R7,b7⟩:=ln_laid (w:=wb) (z2S hlk.said hlk.due (x.p.L 1).out.g (x.p.L 1).out.cl);unfold Z4' at s7;have hz7:=H5.out.1.lt;have hz8:=H5.out.2.1.lt;have hzg:=H5.out.2.2.size;have hz9:=H5.out.1.2.2;have H7:=hide (show _/\_/\_/\_/\_/\_ from ⟨H5.out.1.1.over b7,I5.over b7,H5.out.2.1.1.over b7,J5.over b7,zbt H5.out.2.2 b7,R7⟩);clear R7 b7 hlk H5 I5 J5
  go_upto_region 8 with fail
  clear l7 s7;generalize hgl:wb.heap.size=gl at *;clear hgl;cases bk;obtain ⟨ln,hln⟩:∃ ln,ln=z2L x 1 false:=⟨_,rfl⟩
  have HQ:Hid (PLk w1.heap.size wd gp x.p v1/\CLk w1.heap.size wd (gp+1) (x.c 1) v2/\Below w1.heap.size w1 wd/\∃ u1 u2,CAt 46 wd gl #[u1,u2,.int .i64 ln.g,.bool ln.cl]/\z0I (fun b=>w1.heap.size<=b) wd u1 1 16 (txC ln.S)):=by
   subst hln;exact ⟨⟨H7.out.1,H7.out.2.1.mono fun _ _ hp=>hp.1,hz9⟩,⟨H7.out.2.2.1,H7.out.2.2.2.1.mono fun _ _ hp=>hp.1,by omega⟩,H7.out.2.2.2.2.1,_,_,H7.out.2.2.2.2.2,(H7.out.2.1.lk 1 (by omega)).said.mono fun _ _ hp=>hp.1⟩
  have HFG1:=hide (HFG.out false);have HNX1:=hide (HNX.out false);have HLG1:=hide (HLG.out false);have HDO:=hide (fun (wx:World) (hb:Below w1.heap.size w1 wx)=>z4N _ g x ⟨9,1,0,0,0,false,true⟩ wx (H1.out.1.over hb));have HRF:=hide (fun h=>j8B (x:=x) (d:=⟨9,1,0,0,0,false,true⟩) h);change Hid ((doW x ⟨9,1,0,0,0,false,true⟩).2.1=0->_) at HFG1;rw[← hln]at HFG1 HNX1 HLG1;generalize doW x ⟨9,1,0,0,0,false,true⟩=rr at *;clear hln HFG HNX HLG H7
  go_upto_region 11 with fail
  generalize wd=wq at *
  rotate_left
  obtain ⟨ln,hln⟩:∃ ln,ln=z2L x 1 true:=⟨_,rfl⟩;have l9:=cs_ln H7.out.2.2.1;obtain ⟨wq,s9,R9,b9,ag⟩:=ln_again (w0:=w1) (n:=w1.heap.size) H7.out.2.2.2.2.2 rfl H7.out.2.2.2.2.1 (by omega) (z2S H7.out.2.2.2.1.said H7.out.2.2.2.1.due (x.c 1).out.g (x.c 1).out.cl)
  have hz10:=H7.out.2.2.2.2.2.lt;have hz11:=H7.out.1.lt;have hz12:=H7.out.2.2.1.lt
  have HQ:Hid (PLk w1.heap.size wq gp x.p v1/\CLk w1.heap.size wq (gp+1) (x.c 1) v2/\Below w1.heap.size w1 wq/\∃ u1 u2,CAt 46 wq gl #[u1,u2,.int .i64 ln.g,.bool ln.cl]/\z0I (fun b=>w1.heap.size<=b) wq u1 1 16 (txC ln.S)):=by
   subst hln;have cI:=H7.out.2.2.2.1.keep (w':=wq) fun b hb hl=>ag.block b hl (by omega)
   exact ⟨⟨ag.cat (by omega) H7.out.1,(H7.out.2.1.keep (w':=wq) fun b hb hl=>ag.block b hl (by omega)).mono fun _ _ hp=>hp.1,hz9⟩,⟨ag.cat (by omega) H7.out.2.2.1,cI.mono fun _ _ hp=>hp.1,by omega⟩,b9,_,_,R9,cI.said.mono fun _ _ hp=>hp.1⟩
  have HFG1:=hide (HFG.out true);have HNX1:=hide (HNX.out true);have HLG1:=hide (HLG.out true);have HDO:=hide (fun (wx:World) (hb:Below w1.heap.size w1 wx)=>z4N _ g x ⟨9,1,0,0,0,true,true⟩ wx (H1.out.1.over hb));have HRF:=hide (fun h=>j8B (x:=x) (d:=⟨9,1,0,0,0,true,true⟩) h);change Hid ((doW x ⟨9,1,0,0,0,true,true⟩).2.1=0->_) at HFG1;rw[← hln]at HFG1 HNX1 HLG1;generalize doW x ⟨9,1,0,0,0,true,true⟩=rr at *;clear hln HFG HNX HLG H7
  go_upto_region 11 with fail
  clear l9 s9 R9 b9 ag hz10 hz11 hz12
  all_goals
   obtain ⟨x',rc,rn⟩:=rr;dsimp only at HDO HRF HFG1;obtain ⟨u1,u2,R1,U1⟩:=HQ.out.2.2.2;obtain ⟨A1,C1,rfl,hle1,f1⟩:=q9R U1 (Below.refl _ _);have HR1:=hide R1;have HQ1:=hide (show _/\_/\_ from ⟨HQ.out.1,HQ.out.2.1,HQ.out.2.2.1⟩);have a0:wq.cell? ⟨gl,0,none⟩=some (.slice A1 ln.S.length C1):=R1.cell 0;have a2:wq.cell? ⟨gl,2,none⟩=some (.int .i64 ln.g):=R1.cell 2;have hzl:=R1.lt;obtain ⟨k,hk⟩:∃ k:Nat,ln.g=(k:Int):=⟨ln.g.toNat,by have:=HLG1.out.2.2.2.1;omega⟩
   rw[hk]at a2
   have hns:z3y ln=if ln.S.length<=k then ByteArray.empty else ln.S.getD k ByteArray.empty:=by
    unfold z3y;rw[hk,Int.toNat_natCast]
    by_cases q:ln.S.length<=k
    ·rw[if_pos (by omega),if_pos q]
    ·rw[if_neg (by omega),if_neg q]
   have HEN:=hide (fun (s:ByteArray) (wx:World)=>Cd.z6g 3 1 0 ((s.size:Int)+1) [] [] none none 0 0 0 0 0 0 wx ⟨by simp,by simp,fun h=>absurd h (by simp),fun h=>absurd h (by simp),fun i h=>absurd h (by simp),fun i h=>absurd h (by simp)⟩)
   have hw:=fun (s:ByteArray) (h:s.size<=100)=>(show IntKind.i64.wrap (1+(s.size:Int))=(s.size:Int)+1 by rw[Int.add_comm];exact z7V (by omega) (by omega))
   clear R1 U1 HQ
   by_cases hlt:k<ln.S.length
   rw[if_neg (by omega)]at hns
   have hltI:(k:Int)<(ln.S.length:Int):=by omega
   obtain ⟨bl,ol,rfl,c0⟩:=f1 k hlt;rw[← hns]at c0;clear hns f1;have hwx:=hw _ HNX1.out;have HE1:=hide (HEN.out (z3y ln));have hFx:Hid (rc=0->q2u (z3y ln)=z3y ln):=HFG1.out;unfold q2u at hFx;clear hw HEN HFG1 HNX1 HLG1 hk;generalize z3y ln=nx at *
   go_upto_region 13 with fail
   rotate_left
   rw[if_pos (by omega)]at hns
   have hltI:¬ (k:Int)<(ln.S.length:Int):=by omega
   have hwx:=hw _ HNX1.out;have HE1:=hide (HEN.out (z3y ln));have hFx:Hid (rc=0->q2u (z3y ln)=z3y ln):=HFG1.out;unfold q2u at hFx;clear hw HEN HFG1 HNX1 HLG1 hk f1;rw[hns]at hwx HE1 hFx;rw[show ByteArray.empty=ByteArray.mk #[] from rfl]at hwx HE1 hFx
   go_upto_region 13 with fail
   generalize ByteArray.mk #[]=nx at *
   all_goals
    generalize Cd.encS 3 1 0 ((nx.size:Int)+1) [] []=E at *;generalize Cd.z0t 3 1 0 ((nx.size:Int)+1) [] []=N at *
    try clear c0
    clear a0 a2 hzl
    go_upto_region 15 with (first
     | (go_at_call 25;refine (HE1.out _).mono ?_;rintro e w6 ⟨rfl,b6⟩;have HQ6:=hide (show _/\_/\_ from ⟨HQ1.out.1.over b6,HQ1.out.2.1.over b6,zbt HQ1.out.2.2 b6⟩);clear b6)
     | (go_at_call 21;refine (HDO.out _ HQ6.out.2.2).mono ?_;rintro e w7 ⟨rfl,S7,a7⟩;have H8:=hide (show _/\_/\_/\_ from ⟨HQ6.out.1.alt a7 hg1,HQ6.out.2.1.alt a7 hg1,S7,z6a (by omega) (zbt H1.out.2 HQ6.out.2.2) a7⟩);clear S7 a7))
    clear HE1 HDO HQ6 HQ1 H1 HR1 hwx;have R9:CAt 30 (w7.alloc (.cells #[.int .i64 rc,.int .i64 rn] 30)) w7.heap.size #[.int .i64 rc,.int .i64 rn]:=CAt.new _ w7 _;have b9:Below w7.heap.size w7 (w7.alloc (.cells #[.int .i64 rc,.int .i64 rn] 30)):=znw w7 _;have H9:=hide (show _/\_/\_/\_ from ⟨H8.out.1.over b9,H8.out.2.1.over b9,H8.out.2.2.1.over b9,zbt H8.out.2.2.2 b9⟩);have r0:(w7.alloc (.cells #[.int .i64 rc,.int .i64 rn] 30)).cell? ⟨w7.heap.size,0,none⟩=some (.int .i64 rc):=R9.cell 0;have zr:=R9.lt;clear b9 H8 R9;generalize w7.alloc (.cells #[.int .i64 rc,.int .i64 rn] 30)=w8 at *;generalize hgr:w7.heap.size=gr at *;clear hgr
    by_cases hrc:rc=0
    case pos =>
     have hE:=hFx.out hrc;subst hE;subst hrc;go_wp2;go_ret;exact ⟨rfl,H9.out.2.2.2⟩
    obtain ⟨rfl,-,hp,hc⟩:=HRF.out hrc;clear HRF hFx;have HP:=hide (z3D _ g x' w8 H9.out.2.2.1);have HC0:=hide (fun (wx:World) (hb:Below w8.heap.size w8 wx)=>z8T _ g x' wx (H9.out.2.2.1.over hb));rw[hp]at HP;rw[hc]at HC0;clear hp hc
    go_upto_region 18 with (first
     | (go_at_call 11;refine HP.out.mono ?_;rintro e w9 ⟨y1,rfl,I1,b2⟩;have HI1:=hide I1;have HB2:=hide b2;clear I1 b2)
     | (go_at_call 15;refine (HC0.out _ HB2.out).mono ?_;rintro e wu ⟨y2,rfl,I2,b3⟩;obtain ⟨wv,wz,s1,s2,R1,R2,bc⟩:=j5Q (HI1.out.over b3) I2;unfold Z22 at s1;have HB3:=hide (zbt HB2.out b3);have HX:=hide (show _/\_/\_ from ⟨PLk.mk (n:=w8.heap.size) R1 (HI1.out.over b3) bc (by omega) HB3.out.size,CLk.mk (n:=w8.heap.size) R2 I2 bc (by have:=HB2.out.size;omega) (by have:=HB3.out.size;omega),zbt HB3.out bc⟩);clear I2 b3 R1 R2 bc))
    clear s1 s2 HI1 HP HC0 HB2 HB3 r0 zr;generalize hgq:wu.heap.size=gq at *;clear hgq;have HOP:=H9.out.1.over HX.out.2.2;have HOC:=H9.out.2.1.over HX.out.2.2;obtain ⟨B1,D1,e1⟩:=q_len HX.out.1.2.1;obtain ⟨B2,D2,e2⟩:=q_len HOP.2.1;obtain ⟨B3,D3,e3⟩:=pd_len HX.out.2.1.2.1;obtain ⟨B4,D4,e4⟩:=pd_len HOC.2.1;have p1:wz.cell? ⟨gq,88,none⟩=some (.int .i64 (x.p.L 1).out.g):=HX.out.1.1.cell 88;have p2:wz.cell? ⟨gp,88,none⟩=some (.int .i64 (x.p.L 1).out.g):=HOP.1.cell 88;have p3:wz.cell? ⟨gq,96,none⟩=some y1.q:=HX.out.1.1.cell 96;have p4:wz.cell? ⟨gp,96,none⟩=some v1.q:=HOP.1.cell 96;have p5:wz.cell? ⟨gq+1,16,none⟩=some (.int .i64 (x.c 1).out.g):=HX.out.2.1.1.cell 16;have p6:wz.cell? ⟨gp+1,16,none⟩=some (.int .i64 (x.c 1).out.g):=HOC.1.cell 16;have p7:wz.cell? ⟨gq+1,6,none⟩=some y2.pd:=HX.out.2.1.1.cell 6;have p8:wz.cell? ⟨gp+1,6,none⟩=some v2.pd:=HOC.1.cell 6;have p9:=pr_bcells HX.out.1.1;have p10:=pr_bcells HOP.1;rw[e1]at p3;rw[e2]at p4;rw[e3]at p7;rw[e4]at p8;have HZ:=hide (zbt H9.out.2.2.2 HX.out.2.2);clear HOP HOC e1 e2 e3 e4 H9 HX;refine fg18_1 gp gq _ _ _ _ _ _ _ _ _ _ _ _ x.p.s.b wz _ _ _ _ _ _ _ _ _ _ _ _ _ _ _ _ _ _ _ _ _ _ _ _ _ _ _ _ _ _ _ _ _ _ _ _ _ _ _ _ _ _ _ _ _ _ _ _ _ _ _ _ _ _ _ _ _ _ _ _ _ _ _ _ _ _ _ _ _ _ _ _ _ _ _ _ _ _ _ _ _ _ _ _ _ _ _ _ _ _ _ _ _ _ _ _ _ _ _ _ _ _ _ _ _ _ _ _ _ _ _ _ _ _ _ _ _ _ _ _ _ _ _ _ _ p1 p2 p3 p4 p5 p6 p7 p8 p9 p10 ?_;intro t80 t81 t82 t83 t84 t85 t86 t87 t88 t89 t90 t91 t92 t93 t94 t95 t96 t97 t98 t99 t100 t101 t102 t103 t104 t105 t106 t107 t108 t109 t110 t111 t112 t113 t114 t115 t116 t117 t118 t119 t120 t121 t122 t123 t124 t125 t126 t127 t128 nq;clear p1 p2 p3 p4 p5 p6 p7 p8 p9 p10;simp only[Exit.then];apply_assumption;go_wp2;go_ret;exact ⟨rfl,HZ.out.os,HZ.out.tape,HZ.out.output,HZ.out.size,HZ.out.block⟩
section
open Go.ChangeShapes Go.WideShapes Go.ChangeAt
variable {H:Type} {enc:TypeId×Value->H} {W:World}
theorem open_boolb{r:Reach}{b0:Nat}{v:Value}{d:DataW H}{p:List MemPlace}(hv:Value.okWide prog W r b0 4 v)(h:DataW.Trod enc prog W 0 (fun _=>true) true 4 v d p):∃ x:Bool,v=.bool x:=by
 obtain ⟨n,e,_⟩:=open_bool underlying4 hv h;exact ⟨n,e⟩
end
theorem ltforged_any(A:Option Addr)(C b off:Nat)(l:List Dd)(c:Int)(bk:Bool)(w:World)(hD:q2A w A b off l) :
  Calls prog 8 #[.slice A l.length C,.int .i64 c,.bool bk] w fun e w'=>e=.returned (.bool true)/\Below w.heap.size w w':=by
 by_cases h:c=1
 ·exact ltforged_1 A C b off l c bk w h hD
 ·exact ltforged_0 A C b off l c bk w (by omega) hD
end Wd
end Go.Proofs.YtknaapahicaobaaGreat
