/- Parts of the proof: WO SB SC Q RA1 PVSA PVSM WLZ WPQ WSQ WSA WSL WSC WSP WRF WER. -/
import Derived.Test.YtknaapahicaobaaGreatRows
import Derived.Test.YtknaapahicaobaaGreatDK17
import Derived.ChangeOld
set_option maxRecDepth 100000
set_option maxHeartbeats 16000000
namespace Go.Proofs.YtknaapahicaobaaGreat
open Go.Proofs.Tryz
namespace Wd
open Go.ChangeShapes Go.WideShapes Go.ChangeAt Go.RowKit Go.Deep
section
variable {H:Type} {enc:TypeId×Value->H} {W:World}
theorem q1g{r:Reach}{b0:Nat}{v:Value}{d:DataW H}{p:List MemPlace}(hv:Value.okWide prog W r b0 27 v)(h:DataW.Trod enc prog W 0 (fun _=>true) true 27 v d p):∃ x:Dd,v=.agg (ddC x):=by
 obtain ⟨cs,rfl,hsz⟩:=okWide_struct underlying27 hv;have hc2:prog.cellsOf 27=7:=by kernel_rfl
 have c3:prog.cellsOf 3=1:=by kernel_rfl
 have c4:prog.cellsOf 4=1:=by kernel_rfl
 rw[hc2]at hsz;obtain ⟨cs⟩:=cs
 match cs,hsz with
 | [a0,a1,a2,a3,a4,a5,a6],_ =>
  obtain ⟨fuel,hf⟩:=h;obtain ⟨xs,n,_,_,_,hxl,hx⟩:=DataW.trod_struct underlying27 hf
  match xs,hxl with
  | [y0,y1,y2,y3,y4,y5,y6],_ =>
   have t0:=hx 0 _ rfl;have t1:=hx 1 _ rfl;have t2:=hx 2 _ rfl;have t3:=hx 3 _ rfl;have t4:=hx 4 _ rfl;have t5:=hx 5 _ rfl;have t6:=hx 6 _ rfl
   simp[Value.cells,c3,c4]at t0 t1 t2 t3 t4 t5 t6
   obtain ⟨q0,e0,_,_⟩:=DataW.trod_int underlying3 t0;obtain ⟨q1,e1,_,_⟩:=DataW.trod_int underlying3 t1;obtain ⟨q2,e2,_,_⟩:=DataW.trod_int underlying3 t2;obtain ⟨q3,e3,_,_⟩:=DataW.trod_int underlying3 t3;obtain ⟨q4,e4,_,_⟩:=DataW.trod_int underlying3 t4;obtain ⟨q5,e5,_,_⟩:=DataW.trod_bool underlying4 t5;obtain ⟨q6,e6,_,_⟩:=DataW.trod_bool underlying4 t6
   simp at e0 e1 e2 e3 e4 e5 e6
   subst e0 e1 e2 e3 e4 e5 e6;exact ⟨⟨q0,q1,q2,q3,q4,q5,q6⟩,rfl⟩
end
end Wd
section
open Go.RowKit
def wtC(x:Wt):Array Value:=#[.int .i64 x.num,.int .i64 x.d,.int .i64 x.v,.int .i64 x.amt,.int .i64 x.hei,.int .i64 x.due,.int .i64 x.h0,.int .i64 x.h1]
theorem j5S:(prog.info? 38).map (·.size)=some 24:=by kernel_rfl
theorem neB(w:World)(a0 a1 a2 a3 a4 a5 a6 b0 b1 b2 b3 b4 b5 b6:Int):(binOp .neq 33 (.agg #[.int .i64 a0,.int .i64 a1,.int .i64 a2,.int .i64 a3,.int .i64 a4,.int .i64 a5,.int .i64 a6]) (.agg #[.int .i64 b0,.int .i64 b1,.int .i64 b2,.int .i64 b3,.int .i64 b4,.int .i64 b5,.int .i64 b6])).run prog w=.ok (.bool (!decide (a0=b0/\a1=b1/\a2=b2/\a3=b3/\a4=b4/\a5=b5/\a6=b6))) w:=by
 have h:=eqB w a0 a1 a2 a3 a4 a5 a6 b0 b1 b2 b3 b4 b5 b6;rw[run_eql_struct]at h;rw[run_neq_struct]
 revert h
 generalize (Op.equalIn 10000 33 _ _).run prog w=r;intro h;cases r with
 | ok a w1=>
  simp only[Result.andThen_ok]at h ⊢;cases h;rfl
 | _=>cases h
theorem j9c(w:World)(t s l:Int)(j d:Bool):(Op.equalIn 9999 35 (.agg #[.int .i64 t,.int .i64 s,.int .i64 l,.bool j,.bool d]) (.agg #[.int .i64 t,.int .i64 s,.int .i64 l,.bool j,.bool d])).run prog w=.ok true w:=by
 go_simp
theorem j9a(w:World)(V:Nat->Vd):(Op.equalIn 10000 36 (.agg (vsC V)) (.agg (vsC V))).run prog w=.ok true w:=by
 have hi:(prog.info? 35).isSome=true:=by kernel_rfl
 obtain ⟨i,hi⟩:=Option.isSome_iff_exists.1 hi;have hc:prog.cellsOf 35=5:=by kernel_rfl
 rw[run_equalIn_array w 9999 _ _ underlying36 hi,hc,show List.range 6=[0,1,2,3,4,5] from rfl];have h:=j9c;simp only[Op.eqItems,vsC];go_simp
theorem j8l(w:World)(a b c d e f:Int):(Op.equalIn 9999 37 (.agg #[.int .i64 a,.int .i64 b,.int .i64 c,.int .i64 d,.int .i64 e,.int .i64 f]) (.agg #[.int .i64 a,.int .i64 b,.int .i64 c,.int .i64 d,.int .i64 e,.int .i64 f])).run prog w=.ok true w:=by
 have hi:(prog.info? 3).isSome=true:=by kernel_rfl
 obtain ⟨i,hi⟩:=Option.isSome_iff_exists.1 hi;have hc:prog.cellsOf 3=1:=by kernel_rfl
 rw[run_equalIn_array w 9998 _ _ underlying37 hi,hc,show List.range 6=[0,1,2,3,4,5] from rfl];simp only[Op.eqItems];go_simp
theorem j9k(w:World)(S:Nat->Nat->Int):(Op.equalIn 10000 38 (.agg (shC S)) (.agg (shC S))).run prog w=.ok true w:=by
 have hi:(prog.info? 37).isSome=true:=by kernel_rfl
 obtain ⟨i,hi⟩:=Option.isSome_iff_exists.1 hi;have hc:prog.cellsOf 37=6:=by kernel_rfl
 rw[run_equalIn_array w 9999 _ _ underlying38 hi,hc,show List.range 4=[0,1,2,3] from rfl];have h:=j8l;simp only[Op.eqItems,shC];go_simp
theorem j9j(w:World)(V:Nat->Vd):(binOp .neq 36 (.agg (vsC V)) (.agg (vsC V))).run prog w=.ok (.bool false) w:=by
 rw[run_neq_struct,j9a];rfl
theorem j8U(w:World)(S:Nat->Nat->Int):(binOp .neq 38 (.agg (shC S)) (.agg (shC S))).run prog w=.ok (.bool false) w:=by
 rw[run_neq_struct,j9k];rfl
theorem eqH(w:World)(a b:Int):(Op.equalIn 9999 122 (.agg #[.int .i64 a,.int .i64 b]) (.agg #[.int .i64 a,.int .i64 b])).run prog w=.ok true w:=by
 have hi:(prog.info? 3).isSome=true:=by kernel_rfl
 obtain ⟨i,hi⟩:=Option.isSome_iff_exists.1 hi;have hc:prog.cellsOf 3=1:=by kernel_rfl
 rw[run_equalIn_array w 9998 _ _ underlying122 hi,hc,show List.range 2=[0,1] from rfl];simp only[Op.eqItems];go_simp
theorem j8Z(w:World)(x:Wt):(binOp .neq 124 (.agg (wtC x)) (.agg (wtC x))).run prog w=.ok (.bool false) w:=by
 have h:=fun w=>eqH w x.h0 x.h1;rw[run_neq_struct];unfold wtC;go_simp
theorem j9o(w:World)(b:Bk):(binOp .neq 33 (.agg #[.int .i64 b.f0,.int .i64 b.f1,.int .i64 b.f2,.int .i64 b.f3,.int .i64 b.bo,.int .i64 b.wa,.int .i64 b.bu]) (.agg #[.int .i64 b.f0,.int .i64 b.f1,.int .i64 b.f2,.int .i64 b.f3,.int .i64 b.bo,.int .i64 b.wa,.int .i64 b.bu])).run prog w=.ok (.bool false) w:=by
 rw[neB]
 simp
end
namespace Pv
open Go.RowKit
theorem q0r:(prog.info? 50).map (·.size)=some 14:=by kernel_rfl
theorem z9C{w:World}{b:Nat}{p:Pr}{v:PrV}(h:CAt 56 w b (prC p v))(k:Nat)(hk:k<2):w.rangeAt b (66+k * 14) (lkL (p.L k) (v.l k)):=h.part fun j x hx=>by
 have hj:j<14:=(List.getElem?_eq_some_iff.1 hx).1;rw[z4k k hk j hj];exact hx
theorem q0A{w:World}{b:Nat}{p:Pr}{v:PrV}(h:CAt 56 w b (prC p v))(k:Nat)(hk:k<2):(q3L (.pointer (some ⟨b,66+k * 14,none⟩))).run prog w=.ok (.agg (lkL (p.L k) (v.l k)).toArray) w:=
 run_loadAt_mid (P:=prog) w b (66+k * 14) 50 _ _ (z9C h k hk) underlying50 rfl (by rw[q0r];rfl)
attribute [local go_sem ↓] q1a
end Pv
namespace Pv
open Go.RowKit
theorem z6X{w:World}{b:Nat}{x:Lk}{v:LkV}(h:CAt 50 w b (lkL x v).toArray):w.cell? ⟨b,0,none⟩=some (.bool x.on)/\w.cell? ⟨b,1,none⟩=some (.bool x.gone)/\w.cell? ⟨b,2,none⟩=some (.int .i64 x.base)/\w.cell? ⟨b,3,none⟩=some v.told/\w.cell? ⟨b,4,none⟩=some (.bool x.fresh)/\w.cell? ⟨b,5,none⟩=some v.done/\(w.cell? ⟨b,6,none⟩=some v.said/\w.cell? ⟨b,7,none⟩=some v.due/\w.cell? ⟨b,8,none⟩=some (.int .i64 x.out.g)/\w.cell? ⟨b,9,none⟩=some (.bool x.out.cl))/\(w.cell? ⟨b,10,none⟩=some (.int .i64 x.h0)/\w.cell? ⟨b,11,none⟩=some (.int .i64 x.h1)/\w.cell? ⟨b,12,none⟩=some (.int .i64 x.h2)/\w.cell? ⟨b,13,none⟩=some (.int .i64 x.h3)):=
 ⟨h.cell 0,h.cell 1,h.cell 2,h.cell 3,h.cell 4,h.cell 5,⟨h.cell 6,h.cell 7,h.cell 8,h.cell 9⟩,⟨h.cell 10,h.cell 11,h.cell 12,h.cell 13⟩⟩
attribute [local go_sem ↓] z1s
end Pv
namespace Wd
open Go.RowKit Pv Kc
theorem j5Q{P Q:Nat->Prop}{w:World}{p:Pr}{v:PrV}{c:Cs}{u:CsV}(h:PIn P w p v)(k:CIn Q w c u):∃ wa wb,
  (z4I (.pointer (some ⟨w.heap.size,0,none⟩)) (.agg (prC p v))).run prog ((w.alloc (.cells zeroCells56 56)).alloc (.cells Z22 66))=.ok () wa /\
  (z7t (.pointer (some ⟨w.heap.size+1,0,none⟩)) (.agg (csC c u))).run prog wa=.ok () wb /\
  CAt 56 wb w.heap.size (prC p v)/\CAt 66 wb (w.heap.size+1) (csC c u)/\Below w.heap.size w wb:=by
 have A0:CAt 56 ((w.alloc (.cells zeroCells56 56)).alloc (.cells Z22 66)) w.heap.size zeroCells56:=(CAt.new _ w _).alloc _;have B0:CAt 66 ((w.alloc (.cells zeroCells56 56)).alloc (.cells Z22 66)) (w.heap.size+1) Z22:=CAt.new2 _ w _ _;have b0:Below w.heap.size w ((w.alloc (.cells zeroCells56 56)).alloc (.cells Z22 66)):=(znw w _).alloc (by simp) _
 have A1:=A0.z0s (ds:=prC p v) (by rw[z0d];rfl)
 have B1:=B0.others (c:=w.heap.size) (o:=0) (by omega) (prC p v).toList
 have b1:=z0a (b:=w.heap.size) (Nat.le_refl _) (prC p v).toList 0 _ b0;refine ⟨_,_,z0j A0 z0d (z0b p v) (z0V h),z1o B1 z0m (z0h c u) (z1B k),A1.others (by omega) _,B1.z0s (by rw[z0m];rfl),z0a (by omega) _ _ _ b1⟩
theorem q7w{P Q R:Nat->Prop}{w:World}{p:Pr}{v:PrV}{c d:Cs}{u t:CsV}(h:PIn P w p v)(k:CIn Q w c u)(m:CIn R w d t):∃ wa wb wc,
  (z4I (.pointer (some ⟨w.heap.size,0,none⟩)) (.agg (prC p v))).run prog (((w.alloc (.cells zeroCells56 56)).alloc (.cells Z22 66)).alloc (.cells Z22 66))=.ok () wa /\
  (z7t (.pointer (some ⟨w.heap.size+1,0,none⟩)) (.agg (csC c u))).run prog wa=.ok () wb /\
  (z7t (.pointer (some ⟨w.heap.size+1+1,0,none⟩)) (.agg (csC d t))).run prog wb=.ok () wc /\
  CAt 56 wc w.heap.size (prC p v)/\CAt 66 wc (w.heap.size+1) (csC c u)/\CAt 66 wc (w.heap.size+1+1) (csC d t)/\Below w.heap.size w wc:=by
 have A0:CAt 56 (((w.alloc (.cells zeroCells56 56)).alloc (.cells Z22 66)).alloc (.cells Z22 66)) w.heap.size zeroCells56:=((CAt.new _ w _).alloc _).alloc _;have B0:CAt 66 (((w.alloc (.cells zeroCells56 56)).alloc (.cells Z22 66)).alloc (.cells Z22 66)) (w.heap.size+1) Z22:=(CAt.new2 _ w _ _).alloc _
 have C0:CAt 66 (((w.alloc (.cells zeroCells56 56)).alloc (.cells Z22 66)).alloc (.cells Z22 66)) (w.heap.size+1+1) Z22:=by
  have:=CAt.new2 66 (w.alloc (.cells zeroCells56 56)) (.cells Z22 66) Z22
  rwa [show (w.alloc (.cells zeroCells56 56)).heap.size=w.heap.size+1 by simp]at this
 have b0:Below w.heap.size w (((w.alloc (.cells zeroCells56 56)).alloc (.cells Z22 66)).alloc (.cells Z22 66)):=((znw w _).alloc (by simp) _).alloc (by simp;omega) _
 have A1:=A0.z0s (ds:=prC p v) (by rw[z0d];rfl)
 have B1:=B0.others (c:=w.heap.size) (o:=0) (by omega) (prC p v).toList
 have C1:=C0.others (c:=w.heap.size) (o:=0) (by omega) (prC p v).toList
 have b1:=z0a (b:=w.heap.size) (Nat.le_refl _) (prC p v).toList 0 _ b0;have A2:=A1.others (c:=w.heap.size+1) (o:=0) (by omega) (csC c u).toList
 have B2:=B1.z0s (ds:=csC c u) (by rw[z0m];rfl)
 have C2:=C1.others (c:=w.heap.size+1) (o:=0) (by omega) (csC c u).toList
 have b2:=z0a (b:=w.heap.size+1) (by omega) (csC c u).toList 0 _ b1
 exact ⟨_,_,_,z0j A0 z0d (z0b p v) (z0V h),z1o B1 z0m (z0h c u) (z1B k),z1o C2 z0m (z0h d t) (z1B m),A2.others (by omega) _,B2.others (by omega) _,C2.z0s (by rw[z0m];rfl),z0a (by omega) _ _ _ b2⟩
def PLk(n:Nat)(w:World)(g:Nat)(p:Pr)(v:PrV):Prop:=CAt 56 w g (prC p v)/\PIn (fun b=>n<=b) w p v/\n<=g
def CLk(n:Nat)(w:World)(g:Nat)(c:Cs)(v:CsV):Prop:=CAt 66 w g (csC c v)/\CIn (fun b=>n<=b) w c v/\n<=g
theorem PLk.over{n:Nat}{w w':World}{g:Nat}{p:Pr}{v:PrV}(h:PLk n w g p v)(hb:Below w.heap.size w w'):PLk n w' g p v:=⟨h.1.over hb,h.2.1.over hb,h.2.2⟩
theorem CLk.over{n:Nat}{w w':World}{g:Nat}{c:Cs}{v:CsV}(h:CLk n w g c v)(hb:Below w.heap.size w w'):CLk n w' g c v:=⟨h.1.over hb,h.2.1.over hb,h.2.2⟩
theorem PLk.alt{n g0:Nat}{w w':World}{g:Nat}{p:Pr}{v:PrV}(h:PLk n w g p v)(ha:Alt g0 w w')(hg:g0<n):PLk n w' g p v:=
 ⟨ha.cat (by have:=h.2.2;omega) h.1,h.2.1.keep fun b hb hl=>ha.block b hl (by omega),h.2.2⟩
theorem CLk.alt{n g0:Nat}{w w':World}{g:Nat}{c:Cs}{v:CsV}(h:CLk n w g c v)(ha:Alt g0 w w')(hg:g0<n):CLk n w' g c v:=
 ⟨ha.cat (by have:=h.2.2;omega) h.1,h.2.1.keep fun b hb hl=>ha.block b hl (by omega),h.2.2⟩
theorem PLk.load{n:Nat}{w:World}{g:Nat}{p:Pr}{v:PrV}(h:PLk n w g p v):(z6I (.pointer (some ⟨g,0,none⟩))).run prog w=.ok (.agg (prC p v)) w:=z0i h.1 (z0b _ _)
theorem CLk.load{n:Nat}{w:World}{g:Nat}{c:Cs}{v:CsV}(h:CLk n w g c v):(z3t (.pointer (some ⟨g,0,none⟩))).run prog w=.ok (.agg (csC c v)) w:=z2l h.1 (z0h _ _)
theorem PLk.lt{n:Nat}{w:World}{g:Nat}{p:Pr}{v:PrV}(h:PLk n w g p v):g<w.heap.size:=h.1.lt
theorem CLk.lt{n:Nat}{w:World}{g:Nat}{c:Cs}{v:CsV}(h:CLk n w g c v):g<w.heap.size:=h.1.lt
theorem PLk.mk{n k:Nat}{w wb:World}{g:Nat}{p:Pr}{v:PrV}(hc:CAt 56 wb g (prC p v))(h:PIn (fun b=>k<=b) w p v)(hb:Below w.heap.size w wb)(hk:n<=k)(hg:n<=g):PLk n wb g p v:=⟨hc,(h.mono (P':=fun b=>n<=b) fun _ _ hp=>Nat.le_trans hk hp).over hb,hg⟩
theorem CLk.mk{n k:Nat}{w wb:World}{g:Nat}{c:Cs}{v:CsV}(hc:CAt 66 wb g (csC c v))(h:CIn (fun b=>k<=b) w c v)(hb:Below w.heap.size w wb)(hk:n<=k)(hg:n<=g):CLk n wb g c v:=⟨hc,(h.mono (P':=fun b=>n<=b) fun _ _ hp=>Nat.le_trans hk hp).over hb,hg⟩
theorem q7Y{w:World}{b:Nat}{d:Dd}(h:CAt 27 w b (ddC d)):(z8I (.pointer (some ⟨b,0,none⟩))).run prog w=.ok (.agg (ddC d)) w:=
 run_loadAt_mid (P:=prog) w b 0 27 (ddC d).toList _ h.range underlying27 rfl (by rw[j2F];rfl)
theorem z4v(B g:Nat)(x:Wo)(w:World)(h:StW B g x w):Calls prog 15 #[.pointer (some ⟨g,0,none⟩),.int .i64 0] w fun e w'=>∃ v',e=.returned (.agg (csC (x.c 0) v'))/\CIn (fun b=>w.heap.size+1<=b) w' (x.c 0) v'/\Below w.heap.size w w':=z5h B g x w 0 (by omega) h
theorem z8T(B g:Nat)(x:Wo)(w:World)(h:StW B g x w):Calls prog 15 #[.pointer (some ⟨g,0,none⟩),.int .i64 1] w fun e w'=>∃ v',e=.returned (.agg (csC (x.c 1) v'))/\CIn (fun b=>w.heap.size+1<=b) w' (x.c 1) v'/\Below w.heap.size w w':=z5h B g x w 1 (by omega) h
end Wd
namespace Wd
open Go.RowKit Pv Kc
theorem StW.down{B B' g:Nat}{x:Wo}{w:World}(h:StW B g x w)(hB:B'<=B):StW B' g x w:=by
 obtain ⟨v,hc,hi⟩:=h.at_;exact ⟨⟨v,hc,hi.mono fun b _ hb=>⟨by omega,hb.2⟩⟩,h.inv,by have:=h.le;omega,h.lt⟩
theorem q5v(g:Nat)(d:Dd)(rc rn:Int)(w:World):Calls prog 20 #[.pointer (some ⟨g,0,none⟩),.agg (ddC d),.agg #[.int .i64 rc,.int .i64 rn]] w fun e w'=>e=.returned (.bool true)/\Below w.heap.size w w':=by
 go_enter func20,ntmps20
 go_wp2;go_ret;exact ⟨rfl,(znw w _).alloc (by simp) _⟩
attribute [local go_sem ↓] z4d
theorem q6N(A:Option Addr)(C b off:Nat)(l:List Dd)(w:World)(hD:q2A w A b off l) :
  Calls prog 9 #[.slice A l.length C,.func (.func 20) #[] #[]] w fun e w'=>∃ g,e=.returned (.tuple #[.pointer (some ⟨g,0,none⟩),.bool true])/\StW w.heap.size g (stW l (min l.length 120)) w'/\Below w.heap.size w w':=by
 have HA:=hide (z6e w);have HD:=hide (fun (wx:World) (hb:Below w.heap.size w wx)=>hD.over hb (Nat.le_refl _));clear hD
 go_enter func9,ntmps9
 go_upto_region 3 with (go_at_call 18;refine HA.out.mono ?_;rintro e w1 ⟨rfl,b1⟩;have HB1:=hide b1;clear b1)
 have HN:=hide (z4q w1)
 go_upto_region 4 with (go_at_call 26;refine HN.out.mono ?_;rintro e w2 ⟨g,rfl,h2,b2⟩;have HS2:=hide (show _/\_ from ⟨h2,zbt HB1.out b2⟩);have hg1:=HB1.out.size;have hg2:=h2.le;clear h2 b2)
 go_upto_region 5 with fail
 have HR0:Hid (StW w1.heap.size g (stW l 0) w2/\Below w.heap.size w w2):=HS2.out;clear HS2 HN HA
 go_loopw [7] (fun i wl=>∃ (k:Nat),k<=l.length/\k<=120/\i=.int .i64 (k:Int)/\Hid (StW w1.heap.size g (stW l k) wl/\Below w.heap.size w wl)) (fun i _=>120 - (intOf i).toNat)
 case atStart=>exact ⟨0,Nat.zero_le _,by omega,rfl,HR0⟩
 case round =>
  obtain ⟨k,hk,hk2,rfl,HRR⟩:=hrel;clear HR0
  by_cases hlt:k<l.length/\k<120
  ·obtain ⟨h1,h2⟩:=hlt;have hI1:(k:Int)<(l.length:Int):=by omega
   have hI2:(k:Int)<120:=by omega
   have hx:l[k]?=some l[k]:=List.getElem?_eq_getElem h1;have hst:=z9K hx;generalize l[k]=d at hx hst;have HST:=hide hst;have HDO:=hide (z4N w1.heap.size g (stW l k) d wr HRR.out.1);have ld:=(HD.out wr HRR.out.2).load hx;have hA:A=some ⟨b,off,none⟩:=(HD.out wr HRR.out.2).adr (by omega)
   have HX:=hide hx;subst hA;clear hst hx
   go_upto_region 8 with (go_at_call 21;refine HDO.out.mono ?_;rintro e w3 ⟨rfl,h3,a3⟩;have HS3:=hide (show _/\_ from ⟨h3,a3⟩);clear h3 a3)
   have S4:=HS3.out.1.over (znw w3 (.cells #[.int .i64 (doW (stW l k) d).2.1,.int .i64 (doW (stW l k) d).2.2] 30));have R4:CAt 30 (w3.alloc (.cells #[.int .i64 (doW (stW l k) d).2.1,.int .i64 (doW (stW l k) d).2.2] 30)) w3.heap.size #[.int .i64 (doW (stW l k) d).2.1,.int .i64 (doW (stW l k) d).2.2]:=CAt.new _ w3 _;have B4:Below w.heap.size w (w3.alloc (.cells #[.int .i64 (doW (stW l k) d).2.1,.int .i64 (doW (stW l k) d).2.2] 30)):=(z6a (by omega) HRR.out.2 HS3.out.2).alloc (z6a (by omega) HRR.out.2 HS3.out.2).size _
   rw[← HST.out]at S4;have HS4:=hide (show _/\_/\_ from ⟨S4,B4,R4⟩);clear S4 B4 R4 HS3 HDO HRR ld;generalize (doW (stW l k) d).2.1=rc at *;generalize (doW (stW l k) d).2.2=rn at *;generalize w3.alloc (.cells #[.int .i64 rc,.int .i64 rn] 30)=w4 at *;have hd4:Below w4.heap.size w4 w4.drew:=(Below.refl _ w4).drew;have HT:=hide (q5v g d rc rn w4.drew);have ld4:=(HD.out w4.drew (zbt HS4.out.2.1 hd4)).load HX.out;have r0:w4.cell? ⟨w3.heap.size,0,none⟩=some (.int .i64 rc):=HS4.out.2.2.cell 0;have r1:w4.cell? ⟨w3.heap.size,1,none⟩=some (.int .i64 rn):=HS4.out.2.2.cell 1;have hz4:=HS4.out.2.2.lt;have HD4:=hide hd4;clear hd4
   go_region_with (go_at_call 20;refine HT.out.mono ?_;rintro e w5 ⟨rfl,b5⟩;have HB5:=hide (zbt HD4.out b5);clear b5)
   all_goals (apply_assumption;go_wp2;exact ⟨⟨k+1,by omega,by omega,by go_num,hide ⟨HS4.out.1.over HB5.out,zbt HS4.out.2.1 HB5.out⟩⟩,by simp[intOf];omega⟩)
  ·by_cases h1:k<l.length
   ·obtain rfl:k=120:=by omega
    have hI1:((120:Nat):Int)<(l.length:Int):=by omega
    have hI2:(120:Int)<(l.length:Int):=by omega
    go_wp2;go_ret2;have HE:=hide (show StW w.heap.size g (stW l (min l.length 120)) wr from by rw[show min l.length 120=120 by omega];exact HRR.out.1.down hg1)
    first
     | exact ⟨g,rfl,HE.out,HRR.out.2⟩
     | exact ⟨⟨g,rfl⟩,HE.out,HRR.out.2⟩
   ·have hI1:¬ (k:Int)<(l.length:Int):=by omega
    go_wp2;go_ret2;have HE:=hide (show StW w.heap.size g (stW l (min l.length 120)) wr from by rw[show min l.length 120=k by omega];exact HRR.out.1.down hg1)
    first
     | exact ⟨g,rfl,HE.out,HRR.out.2⟩
     | exact ⟨⟨g,rfl⟩,HE.out,HRR.out.2⟩
end Wd
namespace Wd
open Go.RowKit Pv
abbrev ZL0:Array Value:=#[.bool false,.bool false,.int .i64 0,.slice none 0 0,.bool false,.slice none 0 0,.slice none 0 0,.slice none 0 0,.int .i64 0,.bool false,.int .i64 0,.int .i64 0,.int .i64 0,.int .i64 0]
noncomputable def j8I:Code:=j0p [1,1,1,0,1,9,9,1,1,0,9,1,0] (f22.body.getD .skip)
attribute [local go_sem ↓] q1a
set_option maxRecDepth 1000000 in
theorem j3G(g g' k:Nat)(hk:k<2)(p:Pr)(v v':PrV)(wl:World)(h:CAt 56 wl g (prC p v))(h':CAt 56 wl g' (prC p v'))(v0 v1 v4 v5 v7 v8 v9 v10 v11 v12 v13 v14 v15 v16 v17 v18 v19 v20 v21 v22 v23 v24 v25 v26 v27 v28 v29 v30 v31 v32 v33 v34 v35 v36 v37 v38 v39 v40 v41 v42 v43 v44 v45 v46 v47 v48 v49 v50 v51 v52 v53 v54 v55 v56 v57 v58 v59 v60 v61 v62 v63 v64 v65 v66 v67 v68 v69 v70 v71 v72 v73 v74 v75 v76 v77 v78 v79 v80 v81 v82 v83 v84 v85 v86 v87 v88 v89 v90 v91 v92 v93 v94 v95 v96 v97 v98 v99 v100 v101 v102 v103 v104 v105 v106 v107 v108 v109 v110 v111 v112 v113 v114 v115 v116 v117 v118 v119 v120 v121 v122 v123 v124 v125 v126 v127 v128 v129 v130 v131 v132 v133 v134 v135 v136 v137 v138 v139 v140 v141 v142 v143 v144 v145 v146 v147 v148 v149 v150 v151 v152 v153 v154 v155 v156 v157 v158 v159 v160 v161 v162 v163 v164 v165 v166:Value)(Q:Exit->Act->World->Prop)
  (hone:(∀ u∈lkL (p.L k) (v.l k),u.oneCell'=true)/\∀ u∈lkL (p.L k) (v'.l k),u.oneCell'=true)
  (hQ:∀ (x6 x7:Nat) (t107 t108 t109 t110 t111 t112 t113 t114:Value) (w5:World),Below wl.heap.size wl w5->CAt 50 w5 x6 (lkL (p.L k) (v.l k)).toArray->CAt 50 w5 x7 (lkL (p.L k) (v'.l k)).toArray->Q .normal ⟨List.toArray (v0 :: v1 :: (.pointer (some ⟨g,0,none⟩)) :: (.pointer (some ⟨g',0,none⟩)) :: v4 :: v5 :: (.int .i64 (k:Int)) :: (.pointer (some ⟨x6,0,none⟩)) :: (.pointer (some ⟨x7,0,none⟩)) :: v9 :: v10 :: v11 :: v12 :: v13 :: v14 :: v15 :: v16 :: v17 :: v18 :: v19 :: v20 :: v21 :: v22 :: v23 :: v24 :: v25 :: v26 :: v27 :: v28 :: v29 :: v30 :: v31 :: v32 :: v33 :: v34 :: v35 :: v36 :: v37 :: v38 :: v39 :: v40 :: v41 :: v42 :: v43 :: v44 :: v45 :: v46 :: v47 :: v48 :: v49 :: v50 :: v51 :: v52 :: v53 :: v54 :: v55 :: v56 :: v57 :: v58 :: v59 :: v60 :: v61 :: v62 :: v63 :: v64 :: v65 :: v66 :: v67 :: v68 :: v69 :: v70 :: v71 :: v72 :: v73 :: v74 :: v75 :: v76 :: v77 :: v78 :: v79 :: v80 :: v81 :: v82 :: v83 :: v84 :: v85 :: v86 :: v87 :: v88 :: v89 :: v90 :: v91 :: v92 :: v93 :: v94 :: v95 :: v96 :: v97 :: v98 :: v99 :: v100 :: v101 :: v102 :: v103 :: v104 :: v105 :: v106 :: (t107) :: (t108) :: (t109) :: (t110) :: (t111) :: (t112) :: (t113) :: (t114) :: v115 :: v116 :: v117 :: v118 :: v119 :: v120 :: v121 :: v122 :: v123 :: v124 :: v125 :: v126 :: v127 :: v128 :: v129 :: v130 :: v131 :: v132 :: v133 :: v134 :: v135 :: v136 :: v137 :: v138 :: v139 :: v140 :: v141 :: v142 :: v143 :: v144 :: v145 :: v146 :: v147 :: v148 :: v149 :: v150 :: v151 :: v152 :: v153 :: v154 :: v155 :: v156 :: v157 :: v158 :: v159 :: v160 :: v161 :: v162 :: v163 :: v164 :: v165 :: v166 :: []),[]⟩ w5) :
  Code.wp prog j8I Q ⟨List.toArray (v0 :: v1 :: (.pointer (some ⟨g,0,none⟩)) :: (.pointer (some ⟨g',0,none⟩)) :: v4 :: v5 :: (.int .i64 (k:Int)) :: v7 :: v8 :: v9 :: v10 :: v11 :: v12 :: v13 :: v14 :: v15 :: v16 :: v17 :: v18 :: v19 :: v20 :: v21 :: v22 :: v23 :: v24 :: v25 :: v26 :: v27 :: v28 :: v29 :: v30 :: v31 :: v32 :: v33 :: v34 :: v35 :: v36 :: v37 :: v38 :: v39 :: v40 :: v41 :: v42 :: v43 :: v44 :: v45 :: v46 :: v47 :: v48 :: v49 :: v50 :: v51 :: v52 :: v53 :: v54 :: v55 :: v56 :: v57 :: v58 :: v59 :: v60 :: v61 :: v62 :: v63 :: v64 :: v65 :: v66 :: v67 :: v68 :: v69 :: v70 :: v71 :: v72 :: v73 :: v74 :: v75 :: v76 :: v77 :: v78 :: v79 :: v80 :: v81 :: v82 :: v83 :: v84 :: v85 :: v86 :: v87 :: v88 :: v89 :: v90 :: v91 :: v92 :: v93 :: v94 :: v95 :: v96 :: v97 :: v98 :: v99 :: v100 :: v101 :: v102 :: v103 :: v104 :: v105 :: v106 :: v107 :: v108 :: v109 :: v110 :: v111 :: v112 :: v113 :: v114 :: v115 :: v116 :: v117 :: v118 :: v119 :: v120 :: v121 :: v122 :: v123 :: v124 :: v125 :: v126 :: v127 :: v128 :: v129 :: v130 :: v131 :: v132 :: v133 :: v134 :: v135 :: v136 :: v137 :: v138 :: v139 :: v140 :: v141 :: v142 :: v143 :: v144 :: v145 :: v146 :: v147 :: v148 :: v149 :: v150 :: v151 :: v152 :: v153 :: v154 :: v155 :: v156 :: v157 :: v158 :: v159 :: v160 :: v161 :: v162 :: v163 :: v164 :: v165 :: v166 :: []),[]⟩ wl:=by
 have HK:=hide hQ;have hF:∀ wx,Below wl.heap.size wl wx->(q3L (.pointer (some ⟨g,66+k * 14,none⟩))).run prog wx=.ok (.agg (lkL (p.L k) (v.l k)).toArray) wx/\(q3L (.pointer (some ⟨g',66+k * 14,none⟩))).run prog wx=.ok (.agg (lkL (p.L k) (v'.l k)).toArray) wx:=fun wx hb=>⟨q0A (h.over hb) k hk,q0A (h'.over hb) k hk⟩;have hkk:(k:Int)<2:=by omega
 have hk0:(0:Int)<=(k:Int):=by omega
 clear hQ h h'
 conv=>arg 2;whnf
 refine wp_region_noPanic ?_;have hb:Below wl.heap.size wl wl.drew:=(Below.refl _ wl).drew;refine wp_region_held (S:=fun wx=>Below wl.heap.size wl wx) (by kernel_rfl) ?_
 change wpAnyH _ _ _ _ _ _ _ _ wl.drew;refine Od.Z 0 (.int .i64 (k:Int)) 107 rfl rfl hb ?_ ?_
 ·intro wx hwx;go_simp
 simp only[Od.pp,Od.pb,Od.pc];refine Od.Z 1 (.pointer (some ⟨g,66,none⟩)) 108 rfl rfl hb ?_ ?_
 ·intro wx hwx;go_simp
 simp only[Od.pp,Od.pb,Od.pc];refine Od.Z 2 (.pointer (some ⟨g,66+k * 14,none⟩)) 109 rfl rfl hb ?_ ?_
 ·intro wx hwx;go_simp
 simp only[Od.pp,Od.pb,Od.pc];refine Od.Z 3 (.agg (lkL (p.L k) (v.l k)).toArray) 110 rfl rfl hb ?_ ?_
 ·intro wx hwx;obtain ⟨l1,l2⟩:=hF wx hwx;go_simp
 simp only[Od.pp,Od.pb,Od.pc];refine Od.Z 4 (.int .i64 (k:Int)) 111 rfl rfl hb ?_ ?_
 ·intro wx hwx;go_simp
 simp only[Od.pp,Od.pb,Od.pc];refine Od.Z 5 (.pointer (some ⟨g',66,none⟩)) 112 rfl rfl hb ?_ ?_
 ·intro wx hwx;go_simp
 simp only[Od.pp,Od.pb,Od.pc];refine Od.Z 6 (.pointer (some ⟨g',66+k * 14,none⟩)) 113 rfl rfl hb ?_ ?_
 ·intro wx hwx;go_simp
 simp only[Od.pp,Od.pb,Od.pc];refine Od.Z 7 (.agg (lkL (p.L k) (v'.l k)).toArray) 114 rfl rfl hb ?_ ?_
 ·intro wx hwx;obtain ⟨l1,l2⟩:=hF wx hwx;go_simp
 simp only[Od.pp,Od.pb,Od.pc];refine Od.z3g (i:=8) (j:=9) (by kernel_rfl) rfl rfl rfl rfl (fun K hK=>?_) (fun K hK=>?_)
 ·go_simp;refine hK _ _ (hb.alloc (Nat.le_refl _) _) ?_;clear hK K;refine Od.z0Q (i:=9) (by kernel_rfl) rfl rfl (fun K hK=>?_)
  go_simp;refine hK _ _ ((hb.alloc (Nat.le_refl _) _).alloc (by simp) _) ?_
  clear hK K;have C0:CAt 50 ((wl.alloc (.cells ZL0 50)).alloc (.cells ZL0 50)).drew wl.heap.size ZL0:=(CAt.new 50 wl ZL0).alloc _;have C1:CAt 50 ((wl.alloc (.cells ZL0 50)).alloc (.cells ZL0 50)).drew (wl.heap.size+1) ZL0:=CAt.new2 50 wl (.cells ZL0 50) ZL0;have hbW:Below wl.heap.size wl ((wl.alloc (.cells ZL0 50)).alloc (.cells ZL0 50)).drew:=((znw wl _).alloc (by simp) _).drew
  generalize ((wl.alloc (.cells ZL0 50)).alloc (.cells ZL0 50)).drew=w2 at *;have o1:((lkL (p.L k) (v.l k)).toArray).all (·.oneCell')=true:=by rw[Array.all_eq_true_iff_forall_mem];exact fun u hu=>hone.1 u (by simpa using hu)
  have o2:((lkL (p.L k) (v'.l k)).toArray).all (·.oneCell')=true:=by rw[Array.all_eq_true_iff_forall_mem];exact fun u hu=>hone.2 u (by simpa using hu)
  refine Od.z0n (i:=10) (by kernel_rfl) rfl rfl 50 _ _ rfl rfl (wl.heap.size+0) 0 (lkL (p.L k) (v.l k)).toArray rfl rfl (C0.there 0 _ (by show 0+14<=14;omega)) (by rw[q0r];rfl) o1 (z0a (b:=wl.heap.size+0) (by omega) _ 0 _ hbW) ?_
  refine Od.z0n (i:=11) (by kernel_rfl) rfl rfl 50 _ _ rfl rfl (wl.heap.size+1) 0 (lkL (p.L k) (v'.l k)).toArray rfl rfl ((C1.others (c:=wl.heap.size+0) (o:=0) (by omega) _).there 0 _ (by show 0+14<=14;omega)) (by rw[q0r];rfl) o2 (z0a (b:=wl.heap.size+1) (by omega) _ 0 _ (z0a (b:=wl.heap.size+0) (by omega) _ 0 _ hbW)) ?_
  have D6:=(CAt.z0s (ds:=(lkL (p.L k) (v.l k)).toArray) C0 rfl).others (c:=wl.heap.size+1) (o:=0) (by omega) ((lkL (p.L k) (v'.l k)).toArray).toList
  have D7:=CAt.z0s (ds:=(lkL (p.L k) (v'.l k)).toArray) (C1.others (c:=wl.heap.size+0) (o:=0) (by omega) ((lkL (p.L k) (v.l k)).toArray).toList) rfl
  have DB:=z0a (b:=wl.heap.size+1) (by omega) ((lkL (p.L k) (v'.l k)).toArray).toList 0 _ (z0a (b:=wl.heap.size+0) (by omega) ((lkL (p.L k) (v.l k)).toArray).toList 0 _ hbW)
  refine wpAnyH_done (by kernel_rfl) ?_ _
  exact NoPanic.normal (HK.out (wl.heap.size+0) (wl.heap.size+1) _ _ _ _ _ _ _ _ _ DB D6 D7)
 ·go_simp;refine hK _ _ (hb.alloc (Nat.le_refl _) _) ?_;clear hK K;refine Od.z0Q (i:=8) (by kernel_rfl) rfl rfl (fun K hK=>?_)
  go_simp;refine hK _ _ ((hb.alloc (Nat.le_refl _) _).alloc (by simp) _) ?_
  clear hK K;have C0:CAt 50 ((wl.alloc (.cells ZL0 50)).alloc (.cells ZL0 50)).drew wl.heap.size ZL0:=(CAt.new 50 wl ZL0).alloc _;have C1:CAt 50 ((wl.alloc (.cells ZL0 50)).alloc (.cells ZL0 50)).drew (wl.heap.size+1) ZL0:=CAt.new2 50 wl (.cells ZL0 50) ZL0;have hbW:Below wl.heap.size wl ((wl.alloc (.cells ZL0 50)).alloc (.cells ZL0 50)).drew:=((znw wl _).alloc (by simp) _).drew
  generalize ((wl.alloc (.cells ZL0 50)).alloc (.cells ZL0 50)).drew=w2 at *;have o1:((lkL (p.L k) (v.l k)).toArray).all (·.oneCell')=true:=by rw[Array.all_eq_true_iff_forall_mem];exact fun u hu=>hone.1 u (by simpa using hu)
  have o2:((lkL (p.L k) (v'.l k)).toArray).all (·.oneCell')=true:=by rw[Array.all_eq_true_iff_forall_mem];exact fun u hu=>hone.2 u (by simpa using hu)
  refine Od.z0n (i:=10) (by kernel_rfl) rfl rfl 50 _ _ rfl rfl (wl.heap.size+1) 0 (lkL (p.L k) (v.l k)).toArray rfl rfl (C1.there 0 _ (by show 0+14<=14;omega)) (by rw[q0r];rfl) o1 (z0a (b:=wl.heap.size+1) (by omega) _ 0 _ hbW) ?_
  refine Od.z0n (i:=11) (by kernel_rfl) rfl rfl 50 _ _ rfl rfl (wl.heap.size+0) 0 (lkL (p.L k) (v'.l k)).toArray rfl rfl ((C0.others (c:=wl.heap.size+1) (o:=0) (by omega) _).there 0 _ (by show 0+14<=14;omega)) (by rw[q0r];rfl) o2 (z0a (b:=wl.heap.size+0) (by omega) _ 0 _ (z0a (b:=wl.heap.size+1) (by omega) _ 0 _ hbW)) ?_
  have D6:=(CAt.z0s (ds:=(lkL (p.L k) (v.l k)).toArray) C1 rfl).others (c:=wl.heap.size+0) (o:=0) (by omega) ((lkL (p.L k) (v'.l k)).toArray).toList
  have D7:=CAt.z0s (ds:=(lkL (p.L k) (v'.l k)).toArray) (C0.others (c:=wl.heap.size+1) (o:=0) (by omega) ((lkL (p.L k) (v.l k)).toArray).toList) rfl
  have DB:=z0a (b:=wl.heap.size+0) (by omega) ((lkL (p.L k) (v'.l k)).toArray).toList 0 _ (z0a (b:=wl.heap.size+1) (by omega) ((lkL (p.L k) (v.l k)).toArray).toList 0 _ hbW)
  refine wpAnyH_done (by kernel_rfl) ?_ _
  exact NoPanic.normal (HK.out (wl.heap.size+1) (wl.heap.size+0) _ _ _ _ _ _ _ _ _ DB D6 D7)
end Wd
namespace Wd
open Go.RowKit Pv
theorem j0G{P:Nat->Prop}{w wx:World}{l:List (Int×Int)}{v:Value}(h:Rep P w v 2 16 (pwC l))(hb:Below w.heap.size w wx):∃ A C,v=.slice A l.length C/\l.length<=140737488351232/\∀ k,k<l.length->∃ b o,A=some ⟨b,o,none⟩/\wx.cell? ⟨b,o+k * 2,none⟩=some (.int .i64 (l.getD k (0,0)).1)/\wx.cell? ⟨b,o+k * 2+1,none⟩=some (.int .i64 (l.getD k (0,0)).2):=by
 obtain ⟨A,C,e,s,-,c,-⟩:=(h.over hb).open (z0c l) (by decide)
 refine ⟨A,C,e,by omega,fun k hk=>?_⟩
 obtain ⟨b,o,ea,-,-,hc⟩:=c (by omega)
 obtain ⟨g1,g2⟩:=z1P l k hk;exact ⟨b,o,ea,hc _ _ g1,by rw[Nat.add_assoc];exact hc _ _ g2⟩
theorem j8X(w:World)(a b:Int):(binOp .neq 129 (.agg #[.int .i64 a,.int .i64 b]) (.agg #[.int .i64 a,.int .i64 b])).run prog w=.ok (.bool false) w:=by
 rw[run_neq_struct];go_simp
theorem z5a(l:List (Int×Int))(v v':Value)(P P':Nat->Prop)(w:World)(h:Rep P w v 2 16 (pwC l))(h':Rep P' w v' 2 16 (pwC l)) :
  Calls prog 47 #[v,v'] w fun e w'=>e=.returned (.bool true)/\Below w.heap.size w w':=by
 have H1:=hide (fun (wx:World) (hb:Below w.heap.size w wx)=>j0G h hb);have H2:=hide (fun (wx:World) (hb:Below w.heap.size w wx)=>j0G h' hb);obtain ⟨A,C,rfl,hl,-⟩:=j0G h (Below.refl _ w);obtain ⟨A',C',rfl,-,-⟩:=j0G h' (Below.refl _ w);clear h h'
 go_enter func47,ntmps47
 go_upto_region 4 with fail
 go_loopw [5] (fun i wl=>∃ k:Nat,k<=l.length/\i=.int .i64 (k:Int)/\Hid (Below w.heap.size w wl)) (fun i _=>l.length - (intOf i).toNat)
 case atStart=>exact ⟨0,by omega,rfl,Below.refl _ _⟩
 case round =>
  obtain ⟨k,hk,rfl,HB⟩:=hrel
  by_cases hlt:k<l.length
  ·obtain ⟨A1,C1,e1,-,f1⟩:=H1.out wr HB.out;obtain ⟨A2,C2,e2,-,f2⟩:=H2.out wr HB.out;cases e1;cases e2;obtain ⟨b,o,rfl,c0,c1⟩:=f1 k hlt;obtain ⟨b',o',rfl,d0,d1⟩:=f2 k hlt;clear f1 f2;have n4:=fun w=>j8X w (l.getD k (0,0)).1 (l.getD k (0,0)).2;generalize (l.getD k (0,0)).1=y0 at *;generalize (l.getD k (0,0)).2=y1 at *;have hk0:(0:Int)<=(k:Int):=by omega
   have hk1:(k:Int)<(l.length:Int):=by omega
   go_upto_region 6 with fail
   go_quiet (fail);go_wp2;go_roundw
   case rel=>exact ⟨k+1,by omega,by go_num,HB.out.os,HB.out.tape,HB.out.output,HB.out.size,HB.out.block⟩
   case measure=>simp[intOf];omega
  ·go_wp2;go_ret;exact ⟨rfl,HB.out⟩
theorem q9R{P:Nat->Prop}{w wx:World}{l:List ByteArray}{v:Value}(h:z0I P w v 1 16 (txC l))(hb:Below w.heap.size w wx):∃ A C,v=.slice A l.length C/\l.length<=140737488351232/\∀ k,k<l.length->∃ b o,A=some ⟨b,o,none⟩/\wx.cell? ⟨b,o+k,none⟩=some (.string (l.getD k ByteArray.empty)):=by
 obtain ⟨A0,n0,C0,C1,e0,-,h⟩:=h;obtain ⟨A,C,e,s,-,c,-⟩:=(h.over hb).open (z1L l) (by decide)
 cases e;refine ⟨A0,C0,e0,by omega,fun k hk=>?_⟩
 obtain ⟨b,o,ea,-,-,hc⟩:=c (by omega)
 exact ⟨b,o,ea,hc _ _ (z7D l k hk)⟩
theorem q4O{P:Nat->Prop}{w wx:World}{l:List Int}{v:Value}(h:z0I P w v 1 8 (inC l))(hb:Below w.heap.size w wx):∃ A C,v=.slice A l.length C/\l.length<=140737488351232/\∀ k,k<l.length->∃ b o,A=some ⟨b,o,none⟩/\wx.cell? ⟨b,o+k,none⟩=some (.int .i64 (l.getD k 0)):=by
 obtain ⟨A0,n0,C0,C1,e0,-,h⟩:=h;obtain ⟨A,C,e,s,-,c,-⟩:=(h.over hb).open (z0p l) (by decide)
 cases e;refine ⟨A0,C0,e0,by omega,fun k hk=>?_⟩
 obtain ⟨b,o,ea,-,-,hc⟩:=c (by omega)
 exact ⟨b,o,ea,hc _ _ (z3J l k hk)⟩
theorem z8P(x:Ln.Line)(v1 v2 v1' v2':Value)(P P':Nat->Prop)(w:World)(h1:z0I P w v1 1 16 (txC x.S))(h2:z0I P w v2 1 8 (inC x.D))(h1':z0I P' w v1' 1 16 (txC x.S))(h2':z0I P' w v2' 1 8 (inC x.D)) :
  Calls prog 48 #[.agg #[v1,v2,.int .i64 x.g,.bool x.cl],.agg #[v1',v2',.int .i64 x.g,.bool x.cl]] w fun e w'=>e=.returned (.bool true)/\Below w.heap.size w w':=by
 have H1:=hide (fun (wx:World) (hb:Below w.heap.size w wx)=>q9R h1 hb);have H2:=hide (fun (wx:World) (hb:Below w.heap.size w wx)=>q9R h1' hb);have H3:=hide (fun (wx:World) (hb:Below w.heap.size w wx)=>q4O h2 hb);have H4:=hide (fun (wx:World) (hb:Below w.heap.size w wx)=>q4O h2' hb);obtain ⟨A,C,rfl,hl,-⟩:=q9R h1 (Below.refl _ w);obtain ⟨A',C',rfl,-,-⟩:=q9R h1' (Below.refl _ w);obtain ⟨D,E,rfl,hd,-⟩:=q4O h2 (Below.refl _ w);obtain ⟨D',E',rfl,-,-⟩:=q4O h2' (Below.refl _ w);clear h1 h1' h2 h2'
 have HX0:Hid (CAt 46 ((w.alloc (.cells #[.slice A x.S.length C,.slice D x.D.length E,.int .i64 x.g,.bool x.cl] 46)).alloc (.cells #[.slice A' x.S.length C',.slice D' x.D.length E',.int .i64 x.g,.bool x.cl] 46)) w.heap.size #[.slice A x.S.length C,.slice D x.D.length E,.int .i64 x.g,.bool x.cl]/\CAt 46 ((w.alloc (.cells #[.slice A x.S.length C,.slice D x.D.length E,.int .i64 x.g,.bool x.cl] 46)).alloc (.cells #[.slice A' x.S.length C',.slice D' x.D.length E',.int .i64 x.g,.bool x.cl] 46)) (w.heap.size+1) #[.slice A' x.S.length C',.slice D' x.D.length E',.int .i64 x.g,.bool x.cl]/\Below w.heap.size w ((w.alloc (.cells #[.slice A x.S.length C,.slice D x.D.length E,.int .i64 x.g,.bool x.cl] 46)).alloc (.cells #[.slice A' x.S.length C',.slice D' x.D.length E',.int .i64 x.g,.bool x.cl] 46))):=
  ⟨(CAt.new _ w _).alloc _,CAt.new2 _ w _ _,(znw w _).alloc (by simp) _⟩
 obtain ⟨S,D0,g,cl⟩:=x;dsimp only at *
 go_enter func48,ntmps48
 go_upto_region 1 with fail
 generalize (w.alloc (.cells #[.slice A S.length C,.slice D D0.length E,.int .i64 g,.bool cl] 46)).alloc (.cells #[.slice A' S.length C',.slice D' D0.length E',.int .i64 g,.bool cl] 46)=w0 at *;have a0:w0.cell? ⟨w.heap.size,0,none⟩=some (.slice A S.length C):=HX0.out.1.cell 0;have a1:w0.cell? ⟨w.heap.size,1,none⟩=some (.slice D D0.length E):=HX0.out.1.cell 1;have a2:w0.cell? ⟨w.heap.size,2,none⟩=some (.int .i64 g):=HX0.out.1.cell 2;have a3:w0.cell? ⟨w.heap.size,3,none⟩=some (.bool cl):=HX0.out.1.cell 3;have b0:w0.cell? ⟨w.heap.size+1,0,none⟩=some (.slice A' S.length C'):=HX0.out.2.1.cell 0;have b1:w0.cell? ⟨w.heap.size+1,1,none⟩=some (.slice D' D0.length E'):=HX0.out.2.1.cell 1;have b2:w0.cell? ⟨w.heap.size+1,2,none⟩=some (.int .i64 g):=HX0.out.2.1.cell 2;have b3:w0.cell? ⟨w.heap.size+1,3,none⟩=some (.bool cl):=HX0.out.2.1.cell 3;have hz:=HX0.out.1.lt;have hz':=HX0.out.2.1.lt
 go_upto_region 4 with fail
 clear a0 a1 a2 a3 b0 b1 b2 b3
 go_loopw [40] (fun i wl=>∃ k:Nat,k<=S.length/\i=.int .i64 (k:Int)/\Hid (Below w0.heap.size w0 wl)) (fun i _=>S.length - (intOf i).toNat)
 case atStart=>exact ⟨0,by omega,rfl,Below.refl _ _⟩
 case round =>
  obtain ⟨k,hk,rfl,HB⟩:=hrel;have hBw:=zbt HX0.out.2.2 HB.out;have hcA:=HX0.out.1.over HB.out;have hcB:=HX0.out.2.1.over HB.out;have z1:=hcA.lt;have z2:=hcB.lt
  by_cases hlt:k<S.length
  ·obtain ⟨A1,C1,e1,-,f1⟩:=H1.out wr hBw;obtain ⟨A2,C2,e2,-,f2⟩:=H2.out wr hBw;cases e1;cases e2;have a0:wr.cell? ⟨w.heap.size,0,none⟩=some (.slice A S.length C):=hcA.cell 0;have b0:wr.cell? ⟨w.heap.size+1,0,none⟩=some (.slice A' S.length C'):=hcB.cell 0;obtain ⟨b,o,rfl,c0⟩:=f1 k hlt;obtain ⟨b',o',rfl,d0⟩:=f2 k hlt;clear f1 f2 hcA hcB hBw;generalize S.getD k ByteArray.empty=y0 at *;have hk0:(0:Int)<=(k:Int):=by omega
   have hk1:(k:Int)<(S.length:Int):=by omega
   go_upto_region 6 with fail
   go_quiet (fail);go_wp2;go_roundw
   case rel=>exact ⟨k+1,by omega,by go_num,HB.out.os,HB.out.tape,HB.out.output,HB.out.size,HB.out.block⟩
   case measure=>simp[intOf];omega
  ·have hk1:¬ (k:Int)<(S.length:Int):=by omega
   have a1:wr.cell? ⟨w.heap.size,1,none⟩=some (.slice D D0.length E):=hcA.cell 1;have b1:wr.cell? ⟨w.heap.size+1,1,none⟩=some (.slice D' D0.length E'):=hcB.cell 1;have HY:=hide (show _/\_/\_ from ⟨hcA,hcB,hBw⟩);clear hcA hcB hBw HX0 HB H1 H2
   go_upto_region 10 with fail
   clear a1 b1
   go_loopw [58] (fun i wl=>∃ k:Nat,k<=D0.length/\i=.int .i64 (k:Int)/\Hid (Below wr.heap.size wr wl)) (fun i _=>D0.length - (intOf i).toNat)
   case atStart=>exact ⟨0,by omega,rfl,Below.refl _ _⟩
   case round =>
    obtain ⟨m,hm,rfl,HB⟩:=hrel;have hBw:=zbt HY.out.2.2 HB.out;have hcA:=HY.out.1.over HB.out;have hcB:=HY.out.2.1.over HB.out;clear z1 z2 hz hz';have z1:=hcA.lt;have z2:=hcB.lt
    by_cases hlt2:m<D0.length
    ·obtain ⟨A1,C1,e1,-,f1⟩:=H3.out wr hBw;obtain ⟨A2,C2,e2,-,f2⟩:=H4.out wr hBw;cases e1;cases e2;have a0:wr.cell? ⟨w.heap.size,1,none⟩=some (.slice D D0.length E):=hcA.cell 1;have b0:wr.cell? ⟨w.heap.size+1,1,none⟩=some (.slice D' D0.length E'):=hcB.cell 1;obtain ⟨b,o,rfl,c0⟩:=f1 m hlt2;obtain ⟨b',o',rfl,d0⟩:=f2 m hlt2;clear f1 f2 hcA hcB hBw;generalize D0.getD m 0=y0 at *;have hm0:(0:Int)<=(m:Int):=by omega
     have hm1:(m:Int)<(D0.length:Int):=by omega
     go_upto_region 12 with fail
     go_quiet (fail);go_wp2;go_roundw
     case rel=>exact ⟨m+1,by omega,by go_num,HB.out.os,HB.out.tape,HB.out.output,HB.out.size,HB.out.block⟩
     case measure=>simp[intOf];omega
    ·have HE:=hide hBw;clear hBw hcA hcB;go_wp2;go_ret;exact ⟨rfl,HE.out⟩
end Wd
namespace Wd
open Go.RowKit Pv Kc
def j8b(a b:Value):Sem Value:=binOp .eql 64 a b
theorem j3i(a b:Value):binOp .eql 64 a b=j8b a b:=rfl
theorem j9m(w:World)(a0 a1 a2 a3 a4 a5:Bool):(Op.equalIn Op.maxDepth 64 (.agg #[.bool a0,.bool a1,.bool a2,.bool a3,.bool a4,.bool a5]) (.agg #[.bool a0,.bool a1,.bool a2,.bool a3,.bool a4,.bool a5])).run prog w=.ok true w:=by
 have hi:(prog.info? 4).isSome=true:=by kernel_rfl
 obtain ⟨i,hi⟩:=Option.isSome_iff_exists.1 hi;have hc:prog.cellsOf 4=1:=by kernel_rfl
 rw[show Op.maxDepth=9999+1 from rfl,run_equalIn_array w 9999 _ _ underlying64 hi,hc,show List.range 6=[0,1,2,3,4,5] from rfl];simp only[Op.eqItems];go_simp
theorem j1C(w:World)(a0 a1 a2 a3 a4 a5:Bool):(j8b (.agg #[.bool a0,.bool a1,.bool a2,.bool a3,.bool a4,.bool a5]) (.agg #[.bool a0,.bool a1,.bool a2,.bool a3,.bool a4,.bool a5])).run prog w=.ok (.bool true) w:=by
 have h:=fun w=>j9m w a0 a1 a2 a3 a4 a5;unfold j8b binOp
 simp[Op.equal,h]
theorem j9h(w:World)(a b c d:Int):(binOp .eql 48 (.agg #[.int .i64 a,.int .i64 b,.int .i64 c,.int .i64 d]) (.agg #[.int .i64 a,.int .i64 b,.int .i64 c,.int .i64 d])).run prog w=.ok (.bool true) w:=by
 rw[run_eql_struct];go_simp
theorem j9d(w:World)(a b c d:Int):(binOp .neq 48 (.agg #[.int .i64 a,.int .i64 b,.int .i64 c,.int .i64 d]) (.agg #[.int .i64 a,.int .i64 b,.int .i64 c,.int .i64 d])).run prog w=.ok (.bool false) w:=by
 rw[run_neq_struct];go_simp
theorem q0Q{w:World}{g:Nat}{c:Cs}{v:CsV}(h:CAt 66 w g (csC c v)):(w.cell? ⟨g,8,none⟩=some (.bool (c.fl 0))/\w.cell? ⟨g,9,none⟩=some (.bool (c.fl 1))/\w.cell? ⟨g,10,none⟩=some (.bool (c.fl 2))/\w.cell? ⟨g,11,none⟩=some (.bool (c.fl 3))/\w.cell? ⟨g,12,none⟩=some (.bool (c.fl 4))/\w.cell? ⟨g,13,none⟩=some (.bool (c.fl 5)))/\(w.cell? ⟨g,18,none⟩=some (.int .i64 c.h0)/\w.cell? ⟨g,19,none⟩=some (.int .i64 c.h1)/\w.cell? ⟨g,20,none⟩=some (.int .i64 c.h2)/\w.cell? ⟨g,21,none⟩=some (.int .i64 c.h3)):=
 ⟨⟨h.cell 8,h.cell 9,h.cell 10,h.cell 11,h.cell 12,h.cell 13⟩,⟨h.cell 18,h.cell 19,h.cell 20,h.cell 21⟩⟩
attribute [local go_sem ↓] j3i
theorem z5W(c:Cs)(v v':CsV)(P P':Nat->Prop)(w:World)(hp:CIn P w c v)(hp':CIn P' w c v') :
  Calls prog 23 #[.agg (csC c v),.agg (csC c v')] w fun e w'=>e=.returned (.bool true)/\Below w.heap.size w w':=by
 obtain ⟨vs,vp,vr,v1,v2⟩:=v;obtain ⟨vs',vp',vr',v1',v2'⟩:=v';obtain ⟨z,hzl,hzr,hzi⟩:=id hp.pd;obtain ⟨z',hzl',hzr',hzi'⟩:=id hp'.pd;obtain ⟨Aq,Cq,eq,-,-,-,-⟩:=hzr.open (z1x _ _ hzl) (by decide)
 obtain ⟨Aq',Cq',eq',-,-,-,-⟩:=hzr'.open (z1x _ _ hzl') (by decide)
 obtain ⟨Ar,Cr,er,-,-,-,-⟩:=hp.rp.open (z0c _) (by decide)
 obtain ⟨Ar',Cr',er',-,-,-,-⟩:=hp'.rp.open (z0c _) (by decide)
 dsimp only at eq eq' er er';subst eq eq' er er';clear hzl hzl' hzi hzi' hzr hzr';have HSP:=hide (fun (wx:World) (hb:Below w.heap.size w wx)=>z5a c.set vs vs' P P' wx (hp.set.over hb) (hp'.set.over hb));have HSL:=hide (fun (wx:World) (hb:Below w.heap.size w wx)=>z8P c.out v1 v2 v1' v2' P P' wx (hp.said.over hb) (hp.due.over hb) (hp'.said.over hb) (hp'.due.over hb));clear hp hp';obtain ⟨cs,hcs⟩:∃ cs,csC c ⟨vs,.slice Aq c.pd.length Cq,.slice Ar c.rp.length Cr,v1,v2⟩=cs:=⟨_,rfl⟩;obtain ⟨cs',hcs'⟩:∃ cs,csC c ⟨vs',.slice Aq' c.pd.length Cq',.slice Ar' c.rp.length Cr',v1',v2'⟩=cs:=⟨_,rfl⟩;rw[hcs,hcs'];have HCS:=hide (show _/\_ from ⟨hcs,hcs'⟩);clear hcs hcs'
 go_enter func23,ntmps23
 go_upto_region 1 with fail
 have C1:CAt 66 ((w.alloc (.cells cs 66)).alloc (.cells cs' 66)) w.heap.size (csC c ⟨vs,.slice Aq c.pd.length Cq,.slice Ar c.rp.length Cr,v1,v2⟩):=by rw[HCS.out.1];exact (CAt.new _ w cs).alloc _
 have D1:CAt 66 ((w.alloc (.cells cs 66)).alloc (.cells cs' 66)) (w.heap.size+1) (csC c ⟨vs',.slice Aq' c.pd.length Cq',.slice Ar' c.rp.length Cr',v1',v2'⟩):=by rw[HCS.out.2];exact CAt.new2 66 w _ cs'
 have B1:Below w.heap.size w ((w.alloc (.cells cs 66)).alloc (.cells cs' 66)):=(znw w _).alloc (by simp) _
 generalize (w.alloc (.cells cs 66)).alloc (.cells cs' 66)=w1 at *;have HX:=hide (show _/\_/\_ from ⟨C1,D1,B1⟩);obtain ⟨⟨a0,a1,a2,a3,a4⟩,⟨a5,a6,a7⟩,⟨a14,a15,a16,a17⟩⟩:=z0G C1;obtain ⟨⟨b0,b1,b2,b3,b4⟩,⟨b5,b6,b7⟩,⟨b14,b15,b16,b17⟩⟩:=z0G D1;obtain ⟨⟨a8,a9,a10,a11,a12,a13⟩,⟨a18,a19,a20,a21⟩⟩:=q0Q C1;obtain ⟨⟨b8,b9,b10,b11,b12,b13⟩,⟨b18,b19,b20,b21⟩⟩:=q0Q D1;have hF:=fun wx=>j1C wx (c.fl 0) (c.fl 1) (c.fl 2) (c.fl 3) (c.fl 4) (c.fl 5);have hH:=fun wx=>j9h wx c.h0 c.h1 c.h2 c.h3;clear C1 D1 B1 HCS
 go_wp2_with (first
  | (go_at_call 47;refine (HSP.out _ HX.out.2.2).mono ?_;rintro e w2 ⟨rfl,hb2⟩;have HY:=hide (show _/\_/\_ from ⟨HX.out.1.over hb2,HX.out.2.1.over hb2,zbt HX.out.2.2 hb2⟩);clear a0 a1 a2 a3 a4 a5 a6 a7 a14 a15 a16 a17 b0 b1 b2 b3 b4 b5 b6 b7 b14 b15 b16 b17 a8 a9 a10 a11 a12 a13 a18 a19 a20 a21 b8 b9 b10 b11 b12 b13 b18 b19 b20 b21 hb2;obtain ⟨-,-,⟨a14,a15,a16,a17⟩⟩:=z0G HY.out.1;obtain ⟨-,-,⟨b14,b15,b16,b17⟩⟩:=z0G HY.out.2.1)
  | (go_at_call 48;refine (HSL.out _ HY.out.2.2).mono ?_;rintro e w3 ⟨rfl,hb3⟩;have HW:=hide (zbt HY.out.2.2 hb3);clear hb3))
 go_ret;exact ⟨rfl,HW.out⟩
end Wd
namespace Wd
open Go.RowKit Pv
def j2z(v:Value):Sem Value:=Instr.loadAt 36 v
theorem q6B(v:Value):Instr.loadAt 36 v=j2z v:=rfl
def j2V(v:Value):Sem Value:=Instr.loadAt 38 v
theorem q8p(v:Value):Instr.loadAt 38 v=j2V v:=rfl
def j2T(v:Value):Sem Value:=Instr.loadAt 33 v
theorem q8Z(v:Value):Instr.loadAt 33 v=j2T v:=rfl
theorem j8t{w:World}{b:Nat}{p:Pr}{v:PrV}(h:CAt 56 w b (prC p v)):w.rangeAt b 2 (bkC p.s.b).toList:=by
 intro j u hv;have hj:j<7:=(List.getElem?_eq_some_iff.1 hv).1;refine z6U h j u ?_;simp only[stC,stL];rw[List.getElem?_append_left (show j<(bkC p.s.b).toList.length from hj)];exact hv
theorem j8z{w:World}{b:Nat}{p:Pr}{v:PrV}(h:CAt 56 w b (prC p v)):w.rangeAt b 9 (vsC p.s.V).toList:=by
 intro j u hv;have hj:j<30:=(List.getElem?_eq_some_iff.1 hv).1
 have:=z6U h (7+j) u (by
  simp only[stC,stL];rw[List.getElem?_append_right (by show 7<=7+j;omega),show 7+j - (bkC p.s.b).toList.length=j from by show 7+j - 7=j;omega,List.getElem?_append_left (show j<(vsC p.s.V).toList.length from hj)]
  exact hv)
 rwa [show 2+(7+j)=9+j by omega]at this
theorem j8f{w:World}{b:Nat}{p:Pr}{v:PrV}(h:CAt 56 w b (prC p v)):w.rangeAt b 39 (shC p.s.S).toList:=by
 intro j u hv;have hj:j<24:=(List.getElem?_eq_some_iff.1 hv).1
 have:=z6U h (37+j) u (by
  simp only[stC,stL]
  rw[List.getElem?_append_right (by show 7<=37+j;omega),show 37+j - (bkC p.s.b).toList.length=30+j from by show 37+j - 7=30+j;omega,
   List.getElem?_append_right (by show 30<=30+j;omega),show 30+j - (vsC p.s.V).toList.length=j from by show 30+j - 30=j;omega,List.getElem?_append_left (show j<(shC p.s.S).toList.length from hj)]
  exact hv)
 rwa [show 2+(37+j)=39+j by omega]at this
theorem z7U{w:World}{b:Nat}{p:Pr}{v:PrV}(h:CAt 56 w b (prC p v)):(w.cell? ⟨b,0,none⟩=some (.int .i64 p.h)/\w.cell? ⟨b,1,none⟩=some (.int .i64 p.t)/\w.cell? ⟨b,63,none⟩=some v.ws/\w.cell? ⟨b,65,none⟩=some v.set/\w.cell? ⟨b,94,none⟩=some (.int .i64 p.ml)/\w.cell? ⟨b,95,none⟩=some (.int .i64 p.mn)/\w.cell? ⟨b,96,none⟩=some v.q)/\(j2T (.pointer (some ⟨b,2,none⟩))).run prog w=.ok (.agg (bkC p.s.b)) w/\(j2z (.pointer (some ⟨b,9,none⟩))).run prog w=.ok (.agg (vsC p.s.V)) w/\(j2V (.pointer (some ⟨b,39,none⟩))).run prog w=.ok (.agg (shC p.s.S)) w:=by
 have h1:=run_loadAt_mid (P:=prog) w b 2 33 _ _ (j8t h) underlying33 rfl (by kernel_rfl)
 have h2:=run_loadAt_mid (P:=prog) w b 9 36 _ _ (j8z h) underlying36 rfl (by rw[j2W];rfl)
 have h3:=run_loadAt_mid (P:=prog) w b 39 38 _ _ (j8f h) underlying38 rfl (by rw[j5S];rfl)
 refine ⟨⟨h.cell 0,h.cell 1,h.cell 63,h.cell 65,h.cell 94,h.cell 95,h.cell 96⟩,?_,?_,?_⟩
 ·change (Instr.loadAt 33 _).run prog w=_
  simpa using h1
 ·change (Instr.loadAt 36 _).run prog w=_
  simpa using h2
 ·change (Instr.loadAt 38 _).run prog w=_
  simpa using h3
theorem j9n(w:World)(a b:Int):(binOp .neq 53 (.agg #[.int .i64 a,.int .i64 b]) (.agg #[.int .i64 a,.int .i64 b])).run prog w=.ok (.bool false) w:=by
 rw[run_neq_struct];go_simp
attribute [local go_sem ↓] q6B q8p q8Z
set_option maxRecDepth 1000000 in
theorem z8v(p:Pr)(v v':PrV)(P P':Nat->Prop)(w:World)(hp:PIn P w p v)(hp':PIn P' w p v') :
  Calls prog 22 #[.agg (prC p v),.agg (prC p v')] w fun e w'=>e=.returned (.bool true)/\Below w.heap.size w w':=by
 obtain ⟨z,hzl,hzr,hzi⟩:=id hp.q;obtain ⟨z',hzl',hzr',hzi'⟩:=id hp'.q;obtain ⟨Aq,Cq,eq,-,-,-,-⟩:=hzr.open (z1y _ _ hzl) (by decide)
 obtain ⟨Aq',Cq',eq',-,-,-,-⟩:=hzr'.open (z1y _ _ hzl') (by decide)
 obtain ⟨Aw,Cw,bw,ow,ews,Ws,-,-⟩:=hp.ws.z9U;obtain ⟨Aw',Cw',bw',ow',ews',Ws',-,-⟩:=hp'.ws.z9U;have HWA:=hide Ws;have HWB:=hide Ws';have hlen:=Ws.len;clear hzl hzr hzi hzl' hzr' hzi' Ws Ws';have HP:=hide hp;have HP':=hide hp';clear hp hp';obtain ⟨cs,hcs⟩:∃ cs,prC p v=cs:=⟨_,rfl⟩;obtain ⟨cs',hcs'⟩:∃ cs,prC p v'=cs:=⟨_,rfl⟩;rw[hcs,hcs'];have HCS:=hide (show _/\_ from ⟨hcs,hcs'⟩);clear hcs hcs';have n1:=fun w=>j9j w p.s.V;have n2:=fun w=>j8U w p.s.S;have n3:∀ w,(binOp .neq 33 (.agg (bkC p.s.b)) (.agg (bkC p.s.b))).run prog w=.ok (.bool false) w:=fun w=>j9o w p.s.b;have n4:=fun w=>j9n w p.ml p.mn
 go_enter func22,ntmps22
 go_upto_region 1 with fail
 have C1:CAt 56 ((w.alloc (.cells cs 56)).alloc (.cells cs' 56)) w.heap.size (prC p v):=by rw[HCS.out.1];exact (CAt.new _ w cs).alloc _
 have D1:CAt 56 ((w.alloc (.cells cs 56)).alloc (.cells cs' 56)) (w.heap.size+1) (prC p v'):=by rw[HCS.out.2];exact CAt.new2 56 w _ cs'
 have B1:Below w.heap.size w ((w.alloc (.cells cs 56)).alloc (.cells cs' 56)):=(znw w _).alloc (by simp) _
 generalize (w.alloc (.cells cs 56)).alloc (.cells cs' 56)=w1 at *;have HX:=hide (show _/\_/\_ from ⟨C1,D1,B1⟩);obtain ⟨⟨a0,a1,a63,a65,a94,a95,a96⟩,ak,av,ax⟩:=z7U C1;rw[ews]at a63;rw[eq]at a96;obtain ⟨⟨b0,b1,b63,b65,b94,b95,b96⟩,bk,bv,bx⟩:=z7U D1;rw[ews']at b63;rw[eq']at b96;clear C1 D1 B1 HCS;have HSP:=hide (fun (wx:World) (hb:Below w.heap.size w wx)=>z5a p.set v.set v'.set P P' wx (HP.out.set.over hb) (HP'.out.set.over hb))
 go_upto_region 3 with (go_at_call 47;refine (HSP.out _ HX.out.2.2).mono ?_;rintro e w3 ⟨rfl,hb3⟩;have HZ3:=hide (show _/\_/\_ from ⟨HX.out.1.over hb3,HX.out.2.1.over hb3,zbt HX.out.2.2 hb3⟩);clear a0 a1 a65 a94 a95 a96 a63 ak av ax b0 b1 b65 b94 b95 b96 b63 bk bv bx hb3)
 clear n1 n2 n3 n4 HX HSP;obtain ⟨⟨a0,a1,a63,a65,a94,a95,a96⟩,ak,av,ax⟩:=z7U HZ3.out.1;rw[ews]at a63;rw[eq]at a96;clear a0 a1 a65 a94 a95 a96 ak av ax
 go_upto_region 4 with fail
 clear a63
 go_loopw [87] (fun i wl=>∃ (k:Nat),k<=p.s.W.length/\i=.int .i64 (k:Int)/\Hid (Below w3.heap.size w3 wl)) (fun i _=>p.s.W.length - (intOf i).toNat)
 case atStart=>exact ⟨0,Nat.zero_le _,rfl,Below.refl _ _⟩
 case round =>
  obtain ⟨k,hk,rfl,HB⟩:=hrel
  by_cases hlt:k<p.s.W.length
  ·obtain ⟨x,hx,_⟩:=drop_at hlt;have hBw:=zbt HZ3.out.2.2 HB.out;obtain ⟨c0,c1,c2,c3,c4,c5,c6,c7⟩:=(HWA.out.over hBw).cell k x hx;obtain ⟨d0,d1,d2,d3,d4,d5,d6,d7⟩:=(HWB.out.over hBw).cell k x hx;obtain ⟨⟨-,-,a63,-⟩,-⟩:=z7U (HZ3.out.1.over HB.out);obtain ⟨⟨-,-,b63,-⟩,-⟩:=z7U (HZ3.out.2.1.over HB.out);rw[ews]at a63;rw[ews']at b63;have n4:=fun w=>j8Z w x;unfold wtC at n4;obtain rfl:=HWA.out.adr (by omega)
   obtain rfl:=HWB.out.adr (by omega)
   have hk0:(0:Int)<=(k:Int):=by omega
   have hk1:(k:Int)<(p.s.W.length:Int):=by omega
   clear hx hBw ews ews'
   go_upto_region 6 with fail
   go_quiet (fail);go_wp2;go_roundw
   case rel=>exact ⟨k+1,by omega,by go_num,HB.out.os,HB.out.tape,HB.out.output,HB.out.size,HB.out.block⟩
   case measure=>simp[intOf];omega
  ·have hk1:¬ (k:Int)<(p.s.W.length:Int):=by omega
   have HZ4:=hide (show _/\_/\_ from ⟨HZ3.out.1.over HB.out,HZ3.out.2.1.over HB.out,zbt HZ3.out.2.2 HB.out⟩);clear HZ3 HB HWA HWB ews ews' eq eq'
   rename World=>w4
   go_upto_region 10 with fail
   go_loopw [104] (fun i wl=>∃ (k:Nat),k<=2/\i=.int .i64 (k:Int)/\Hid (Below w4.heap.size w4 wl)) (fun i _=>(2 - intOf i).toNat)
   case atStart=>exact ⟨0,by omega,rfl,Below.refl _ _⟩
   case round =>
    obtain ⟨m,hm,rfl,HB⟩:=hrel
    by_cases hm2:m<2
    ·have hkk:(m:Int)<2:=by omega
     go_upto_region 12 with fail
     have hBw:Below w.heap.size w wr:=zbt HZ4.out.2.2 HB.out;have hl1:=(HP.out.lk m hm2).keep (w':=wr) fun b _ hlt=>hBw.block b hlt;have hl2:=(HP'.out.lk m hm2).keep (w':=wr) fun b _ hlt=>hBw.block b hlt;refine j3G w.heap.size (w.heap.size+1) m hm2 p v v' wr (HZ4.out.1.over HB.out) (HZ4.out.2.1.over HB.out) _ _ _ _ _ _ _ _ _ _ _ _ _ _ _ _ _ _ _ _ _ _ _ _ _ _ _ _ _ _ _ _ _ _ _ _ _ _ _ _ _ _ _ _ _ _ _ _ _ _ _ _ _ _ _ _ _ _ _ _ _ _ _ _ _ _ _ _ _ _ _ _ _ _ _ _ _ _ _ _ _ _ _ _ _ _ _ _ _ _ _ _ _ _ _ _ _ _ _ _ _ _ _ _ _ _ _ _ _ _ _ _ _ _ _ _ _ _ _ _ _ _ _ _ _ _ _ _ _ _ _ _ _ _ _ _ _ _ _ _ _ _ _ _ _ _ _ _ _ _ _ _ _ _ _ _ _ _ _ _ _ _ _ _ _ ⟨q3r hl1,q3r hl2⟩ ?_;intro x6 x7 t56 t57 t58 t59 t60 t61 t62 t63 w5 hb5 h6 h7;have HL:=hide (show _/\_ from ⟨hl1,hl2⟩);have E5:=hide (show _/\_/\_/\_ from ⟨h6,h7,hb5,zbt HB.out hb5⟩);clear hl1 hl2 h6 h7 hb5 hBw HB;obtain ⟨c0,c1,-,c3,c4,c5,⟨c6,c7,c8,c9⟩,⟨ca,cb,cc,cd⟩⟩:=z6X E5.out.1;obtain ⟨d0,d1,-,d3,d4,d5,⟨d6,d7,d8,d9⟩,⟨da,db,dc,dd⟩⟩:=z6X E5.out.2.1;generalize p.L m=x at *;generalize v.l m=u at *;generalize v'.l m=u' at *;obtain ⟨D1,F1,eD1,-,-⟩:=q4O HL.out.1.done.c (Below.refl _ _);obtain ⟨D2,F2,eD2,-,-⟩:=q4O HL.out.2.done.c (Below.refl _ _);rw[eD1]at c5;rw[eD2]at d5;have n5:=fun w=>j9d w x.h0 x.h1 x.h2 x.h3;have HS1:=hide (fun (wx:World) (hb:Below wr.heap.size wr wx)=>z5a x.told u.told u'.told _ _ wx (HL.out.1.told.over hb) (HL.out.2.told.over hb));have HS2:=hide (fun (wx:World) (hb:Below wr.heap.size wr wx)=>z8P x.out u.said u.due u'.said u'.due _ _ wx (HL.out.1.said.over hb) (HL.out.1.due.over hb) (HL.out.2.said.over hb) (HL.out.2.due.over hb));simp only[Exit.then];apply_assumption;clear HP HP' HZ4
     go_wp2_with (first
      | (go_at_call 47;refine (HS1.out _ E5.out.2.2.1).mono ?_;rintro e w6 ⟨rfl,hb6⟩;have E6:=hide (show _/\_/\_/\_ from ⟨E5.out.1.over hb6,E5.out.2.1.over hb6,zbt E5.out.2.2.1 hb6,zbt E5.out.2.2.2 hb6⟩);clear c0 c1 c3 c4 c5 c6 c7 c8 c9 ca cb cc cd d0 d1 d3 d4 d5 d6 d7 d8 d9 da db dc dd hb6;obtain ⟨-,-,-,-,-,-,⟨c6,c7,c8,c9⟩,-⟩:=z6X E6.out.1;obtain ⟨-,-,-,-,-,-,⟨d6,d7,d8,d9⟩,-⟩:=z6X E6.out.2.1)
      | (go_at_call 48;refine (HS2.out _ E6.out.2.2.1).mono ?_;rintro e w8 ⟨rfl,hb8⟩;have E8:=hide (zbt E6.out.2.2.2 hb8);clear c6 c7 c8 c9 d6 d7 d8 d9 hb8))
     first | exact ⟨⟨m+1,by omega,by go_num,E8⟩,by simp[intOf];omega⟩ | ((repeat apply Exists.intro);exact ⟨⟨m+1,by omega,by go_num,E8⟩,rfl⟩)
    ·obtain rfl:m=2:=by omega
     have HE:=hide (zbt HZ4.out.2.2 HB.out);clear HB HZ4;go_wp2;go_ret;exact ⟨rfl,HE.out⟩
end Wd
namespace Wd
open Go.RowKit Pv Kc
theorem j0I{s:St}{d v n:Int}(h:(z0H s d v n).2≠0):(z0H s d v n).1=s:=by
 unfold z0H at h ⊢
 repeat' split
 all_goals simp_all
theorem q9h{s:St}{v:Int}(h:(z1h s v).2≠0):(z1h s v).1=s:=by
 unfold z1h at h ⊢
 repeat' split
 all_goals simp_all
theorem q6k{p:Pr}{d v n:Int}(h:(z2D p d v n).2≠0):(z2D p d v n).1=p:=by
 unfold z2D at h ⊢
 split
 ·rename_i hg;rw[if_pos hg]at h
  show ({ p with s:=(z0H p.s d v n).1 }:Pr)=p
  rw[j0I h]
 ·rfl
theorem q6q{p:Pr}{d v n now:Int}(h:(z1S p d v n now).2≠0):(z1S p d v n now).1=p:=by
 unfold z1S at h ⊢
 repeat' split
 all_goals simp_all
theorem j0W{p:Pr}{v n:Int}(h:(z4m p v n).2≠0):(z4m p v n).1=p:=by
 unfold z4m at h ⊢
 repeat' split
 all_goals simp_all
theorem j0w{p:Pr}{c:Int}{l:List Int}(h:(z3z p c l).2≠0):(z3z p c l).1=p:=by
 unfold z3z at h ⊢
 repeat' split
 all_goals simp_all
theorem j1r{c:Cs}{l:List Int}(h:(z3r c l).2≠0):(z3r c l).1=c:=by
 unfold z3r at h ⊢
 repeat' split
 all_goals simp_all
theorem j3C{c:Cs}{k i v n now:Int}(h:(z2p c k i v n now).2≠0):(z2p c k i v n now).1=c:=by
 unfold z2p at h ⊢
 split
 ·rename_i hg;rw[if_pos hg]at h
  have:Ln.z5b c.out (Cd.encS k i v n [] []) (now+40)=c.out:=by
   unfold Ln.z5b;rw[if_neg h]
  show ({ c with out:=Ln.z5b c.out (Cd.encS k i v n [] []) (now+40) }:Cs)=c
  rw[this]
 ·rfl
theorem j1e{c:Cs}{v now:Int}(h:(z3I c v now).2≠0):(z3I c v now).1=c:=by
 unfold z3I at h ⊢
 repeat' split
 all_goals simp_all
theorem q4s{c:Cs}{v i now:Int}(h:(z1p c v i now).2≠0):(z1p c v i now).1=c:=by
 unfold z1p at h ⊢
 repeat' split
 ·rename_i h1 h2 h3 h4;rw[if_pos h1,if_pos h2,if_pos h3,if_pos h4]at h;exact j3C h
 all_goals rfl
theorem z7H(f:Nat->Cs)(i:Nat):z2Y f i (f i)=f:=by
 funext k
 unfold z2Y
 split
 ·rename_i e;rw[e]
 ·rfl
theorem j6I{x:Wo}{d:Dd}(h:(atP x d).2≠0):(atP x d).1=x:=by
 unfold atP at h ⊢
 split
 ·rename_i e;rw[if_pos e]at h
  show ({ x with p:=(z2D x.p d.d d.v d.n).1 }:Wo)=x
  rw[q6k h]
 ·rename_i e1;rw[if_neg e1]at h
  split
  ·rename_i e;rw[if_pos e]at h
   show ({ x with p:=(z1S x.p d.d d.v d.n x.ck).1 }:Wo)=x
   rw[q6q h]
  ·rename_i e2;rw[if_neg e2]at h
   split
   ·rename_i e;rw[if_pos e]at h
    show ({ x with p:={ x.p with s:=(z1h x.p.s d.v).1 } }:Wo)=x
    rw[q9h h]
   ·rename_i e3;rw[if_neg e3]at h
    show ({ x with p:=(z4m x.p d.v d.n).1 }:Wo)=x
    rw[j0W h]
theorem j1o{x:Wo}{i:Nat}{b:Bool}{s:ByteArray}(h:(z2y x i b s).2≠0):(z2y x i b s).1=x:=by
 unfold z2y at h ⊢
 split
 ·rename_i e;rw[if_pos e]at h
  show ({ x with p:=(z3z x.p i (Cd.bs s)).1 }:Wo)=x
  rw[j0w h]
 ·rename_i e;rw[if_neg e]at h
  show ({ x with c:=z2Y x.c i (z3r (x.c i) (Cd.bs s)).1 }:Wo)=x
  rw[j1r h,z7H]
theorem j5p{x:Wo}{i:Nat}{d:Dd}(h:(q1B x i d).2≠0):(q1B x i d).1=x:=by
 unfold q1B at h ⊢
 split
 ·rename_i e;rw[if_pos e]at h
  show ({ x with c:=z2Y x.c i (z3I (x.c i) d.v x.ck).1 }:Wo)=x
  rw[j1e h,z7H]
 ·rename_i e;rw[if_neg e]at h
  show ({ x with c:=z2Y x.c i (z1p (x.c i) d.v d.n x.ck).1 }:Wo)=x
  rw[q4s h,z7H]
theorem j5m{x:Wo}{i:Nat}{b f:Bool}(h:(q1t x i b f).2.2≠0):(q1t x i b f).1=x:=by
 unfold q1t at h ⊢
 split
 ·rename_i e;rw[if_pos e]at h
  split
  ·rename_i e2;rw[if_pos e2]at h;exact absurd rfl h
  ·rename_i e2;exact j1o e2
 ·rfl
theorem j0E{x:Wo}{i:Nat}{d:Dd}(h:(z6Q x i d).2.2≠0):(z6Q x i d).1=x:=by
 unfold z6Q at h ⊢
 split
 ·rename_i e;rw[if_pos e]at h;dsimp only at h ⊢;unfold z5M at h ⊢
  split
  ·rename_i e2;rw[if_pos e2]at h;exact absurd rfl h
  ·rfl
 ·rename_i e;rw[if_neg e]at h
  split
  ·rename_i e2;rw[if_pos e2]at h;exact absurd rfl h
  ·rename_i e2;rw[if_neg e2]at h
   split
   ·rename_i e3;rw[if_pos e3]at h;exact j5m h
   ·rename_i e3;rw[if_neg e3]at h
    split
    ·rename_i e4;rw[if_pos e4]at h;dsimp only at h ⊢;unfold q1s at h ⊢
     split
     ·rename_i e5;rw[if_pos e5]at h;exact absurd rfl h
     ·rfl
    ·rename_i e4;rw[if_neg e4]at h;exact j5p h
theorem q9V{x:Wo}{d:Dd}(h:(z3o x d).2.2≠0):(z3o x d).1=x:=by
 unfold z3o at h ⊢
 split
 ·rename_i e;rw[if_pos e]at h;exact j6I h
 ·rename_i e;rw[if_neg e]at h
  split
  ·unfold z6H
   split
   ·rfl
   ·rename_i e2 e3;rw[if_pos e2]at h;unfold z6H at h;rw[if_neg e3]at h;exact absurd rfl h
  ·rename_i e2;rw[if_neg e2]at h
   split
   ·rename_i e3;rw[if_pos e3]at h;unfold z7x at h ⊢
    split
    ·rename_i e4;rw[if_pos e4]at h;exact absurd rfl h
    ·rfl
   ·rename_i e3;rw[if_neg e3]at h
    split
    ·rename_i e4;rw[if_pos e4]at h;unfold z4j at h ⊢
     split
     ·rename_i e5;rw[if_pos e5]at h
      split
      ·rename_i e6;rw[if_pos e6]at h;exact absurd rfl h
      ·rfl
     ·rfl
    ·rename_i e4;rw[if_neg e4]at h
     split
     ·rename_i e5;rw[if_pos e5]at h
      split
      ·rename_i e6;rw[if_pos e6]at h;exact j0E h
      ·rfl
     ·rfl
theorem j8B{x:Wo}{d:Dd}(h:(doW x d).2.1≠0):(doW x d).2.2=0/\(doW x d).1.ck=x.ck/\(doW x d).1.p=x.p/\(doW x d).1.c=x.c:=by
 unfold doW at h ⊢
 split
 ·exact ⟨rfl,rfl,rfl,rfl⟩
 ·rename_i e;rw[if_neg e]at h;have:=q9V h;dsimp only;rw[if_neg h,this];exact ⟨rfl,rfl,rfl,rfl⟩
end Wd
namespace Wd
open Go.RowKit Pv Kc
attribute [local go_sem ↓] z0F z0v z1n z1e z4d
set_option maxRecDepth 100000 in
theorem z9L(A:Option Addr)(C b off:Nat)(l:List Dd)(d:Dd)(w:World)(hD:q2A w A b off l) :
  Calls prog 7 #[.slice A l.length C,.agg (ddC d)] w fun e w'=>e=.returned (.bool true)/\Below w.heap.size w w':=by
 have R0:CAt 27 (w.alloc (.cells (ddC d) 27)) w.heap.size (ddC d):=CAt.new _ w _;have B0:Below w.heap.size w (w.alloc (.cells (ddC d) 27)):=znw w _;have HPL:=hide (fun (wx:World) (hb:Below w.heap.size w wx)=>q6N A C b off l wx (hD.over hb (Nat.le_refl _)));clear hD;generalize hx0:stW l (min l.length 120)=x at *;clear hx0;obtain ⟨cd,hcd⟩:∃ cd,ddC d=cd:=⟨_,rfl⟩;rw[hcd]at R0 B0;rw[hcd];have HCD:=hide hcd;clear hcd
 go_enter func7,ntmps7
 go_upto_region 1 with fail
 generalize w.alloc (.cells cd 27)=w0 at *;have H0:=hide (show _/\_ from ⟨R0,B0⟩);clear R0 B0
 go_upto_region 4 with (go_at_call 9;refine (HPL.out _ H0.out.2).mono ?_;rintro e w1 ⟨g,rfl,S1,b1⟩;have hg1:=S1.lt;have hg0:=S1.le;have H1:=hide (show _/\_/\_ from ⟨S1,b1,H0.out.1.over b1⟩);clear S1 b1)
 clear HPL;have HP:=hide (fun (wx:World) (hb:Below w1.heap.size w1 wx)=>z3D _ g x wx (H1.out.1.over hb));have HC0:=hide (fun (wx:World) (hb:Below w1.heap.size w1 wx)=>z4v _ g x wx (H1.out.1.over hb));have HC1:=hide (fun (wx:World) (hb:Below w1.heap.size w1 wx)=>z8T _ g x wx (H1.out.1.over hb));have HCK:=hide (fun (wx:World) (hb:Below w1.heap.size w1 wx)=>z5Y _ g x wx (H1.out.1.over hb))
 go_upto_region 5 with (first
  | (go_at_call 11;refine (HP.out _ (Below.refl _ _)).mono ?_;rintro e w2 ⟨v1,rfl,I1,b2⟩;have HI1:=hide I1;have HB2:=hide b2;clear I1 b2)
  | (go_at_call 15;have _m:=m1;refine (HC1.out _ HB3.out).mono ?_;rintro e w4 ⟨v3,rfl,I3,b4⟩;obtain ⟨wa,wb,wc,s1,s2,s3,R1,R2,R3,bc⟩:=q7w (HI1.out.over b4) (HI2.out.over b4) I3;unfold Z22 at s1;have HB4:=hide (zbt HB3.out b4);have H5:=hide (show _/\_/\_/\_ from ⟨PLk.mk (n:=w1.heap.size) R1 (HI1.out.over b4) bc (by omega) HB4.out.size,CLk.mk (n:=w1.heap.size) R2 (HI2.out.over b4) bc (by have:=HB2.out.size;omega) (by have:=HB4.out.size;omega),CLk.mk (n:=w1.heap.size) R3 I3 bc (by have:=HB3.out.size;omega) (by have:=HB4.out.size;omega),zbt HB4.out bc⟩);clear I3 b4 R1 R2 R3 bc)
  | (go_at_call 15;refine (HC0.out _ HB2.out).mono ?_;rintro e w3 ⟨v2,rfl,I2,b3⟩;have m1:=trivial;have HI2:=hide I2;have HI1:=hide (HI1.out.over b3);have HB3:=hide (zbt HB2.out b3);clear I2 b3)
  | (go_at_call 24;refine (HCK.out _ HB4.out).mono ?_;rintro e w' ⟨rfl,rfl⟩))
 clear s1 s2 s3 HI1 HI2 HP HC0 HC1 HCK;have HB5:Hid (Below w.heap.size w wc):=H0.out.2.trans ((zbt H1.out.2.1 H5.out.2.2.2).mono H0.out.2.size)
 have l5:(z8I (.pointer (some ⟨w.heap.size,0,none⟩))).run prog wc=.ok (.agg cd) wc:=by
  have:=H1.out.2.2.over H5.out.2.2.2;rw[← HCD.out]at this ⊢;exact q7Y this
 have hz5:=(H1.out.2.2.over H5.out.2.2.2).lt
 have HDO:Hid (Calls prog 21 #[.pointer (some ⟨g,0,none⟩),.agg cd] wc fun e w'=>e=.returned (.agg #[.int .i64 (doW x d).2.1,.int .i64 (doW x d).2.2])/\StW w0.heap.size g (doW x d).1 w'/\Alt g wc w'):=by
  rw[← HCD.out];exact z4N _ g x d wc (H1.out.1.over H5.out.2.2.2)
 have HRF:=hide (fun h=>j8B (x:=x) (d:=d) h);generalize (doW x d).2.1=rc at *;generalize (doW x d).2.2=rn at *;generalize (doW x d).1=x' at *;generalize hgp:w4.heap.size=gp at *;clear hgp;have hz0:w.heap.size<=w0.heap.size:=H0.out.2.size
 go_upto_region 6 with (go_at_call 21;refine HDO.out.mono ?_;rintro e w5 ⟨rfl,S5,a5⟩;have H6:=hide (show _/\_/\_/\_/\_ from ⟨H5.out.1.alt a5 hg1,H5.out.2.1.alt a5 hg1,H5.out.2.2.1.alt a5 hg1,S5,z6a (by omega) HB5.out a5⟩);clear S5 a5)
 clear l5 hz5 HDO H5 HB5 H1 H0 HB4 HB3 HB2;have R7:CAt 30 (w5.alloc (.cells #[.int .i64 rc,.int .i64 rn] 30)) w5.heap.size #[.int .i64 rc,.int .i64 rn]:=CAt.new _ w5 _;have b7:Below w5.heap.size w5 (w5.alloc (.cells #[.int .i64 rc,.int .i64 rn] 30)):=znw w5 _;have H7:=hide (show _/\_/\_/\_/\_ from ⟨H6.out.1.over b7,H6.out.2.1.over b7,H6.out.2.2.1.over b7,H6.out.2.2.2.1.over b7,zbt H6.out.2.2.2.2 b7⟩);have HR7:=hide R7;clear b7 H6 R7;generalize w5.alloc (.cells #[.int .i64 rc,.int .i64 rn] 30)=w6 at *;generalize hgr:w5.heap.size=gr at *;clear hgr;have r0:w6.cell? ⟨gr,0,none⟩=some (.int .i64 rc):=HR7.out.cell 0;have zr:=HR7.out.lt
 by_cases hrc:rc=0
 ·subst hrc;go_wp2;go_ret;exact ⟨rfl,H7.out.2.2.2.2⟩
 ·obtain ⟨rfl,hck,hp,hc⟩:=HRF.out hrc;clear HRF;have HP:=hide (fun (wx:World) (hb:Below w6.heap.size w6 wx)=>z3D _ g x' wx (H7.out.2.2.2.1.over hb));have HC0:=hide (fun (wx:World) (hb:Below w6.heap.size w6 wx)=>z4v _ g x' wx (H7.out.2.2.2.1.over hb));have HC1:=hide (fun (wx:World) (hb:Below w6.heap.size w6 wx)=>z8T _ g x' wx (H7.out.2.2.2.1.over hb));have HCK:=hide (fun (wx:World) (hb:Below w6.heap.size w6 wx)=>z5Y _ g x' wx (H7.out.2.2.2.1.over hb));rw[hp]at HP;rw[hc]at HC0 HC1;rw[hck]at HCK;clear hp hc hck;clear _m m1
  go_upto_region 9 with (first
   | (go_at_call 11;refine (HP.out _ (Below.refl _ _)).mono ?_;rintro e w7 ⟨u1,rfl,I1,b2⟩;have HI1:=hide I1;have HB2:=hide b2;clear I1 b2)
   | (go_at_call 15;have _m:=m1;refine (HC1.out _ HB3.out).mono ?_;rintro e w9 ⟨u3,rfl,I3,b4⟩;obtain ⟨wa,wb,wd,s1,s2,s3,R1,R2,R3,bc⟩:=q7w (HI1.out.over b4) (HI2.out.over b4) I3;unfold Z22 at s1;have HB4:=hide (zbt HB3.out b4);have H8:=hide (show _/\_/\_/\_ from ⟨PLk.mk (n:=w6.heap.size) R1 (HI1.out.over b4) bc (by omega) HB4.out.size,CLk.mk (n:=w6.heap.size) R2 (HI2.out.over b4) bc (by have:=HB2.out.size;omega) (by have:=HB4.out.size;omega),CLk.mk (n:=w6.heap.size) R3 I3 bc (by have:=HB3.out.size;omega) (by have:=HB4.out.size;omega),zbt HB4.out bc⟩);clear I3 b4 R1 R2 R3 bc)
   | (go_at_call 15;refine (HC0.out _ HB2.out).mono ?_;rintro e w8 ⟨u2,rfl,I2,b3⟩;have m1:=trivial;have HI2:=hide I2;have HI1:=hide (HI1.out.over b3);have HB3:=hide (zbt HB2.out b3);clear I2 b3))
  clear s1 s2 s3 HI1 HI2 HP HC0 HC1 r0 zr;generalize hgp:w9.heap.size=gq at *;clear hgp;have H9:=hide (show _/\_/\_/\_/\_/\_/\_ from ⟨H7.out.1.over H8.out.2.2.2,H7.out.2.1.over H8.out.2.2.2,H7.out.2.2.1.over H8.out.2.2.2,H8.out.1,H8.out.2.1,H8.out.2.2.1,zbt H7.out.2.2.2.2 H8.out.2.2.2⟩);have r1:wd.cell? ⟨gr,1,none⟩=some (.int .i64 0):=(HR7.out.over H8.out.2.2.2).cell 1;have zr:=(HR7.out.over H8.out.2.2.2).lt;have HCK:=hide (HCK.out wd H8.out.2.2.2);have l1:=H9.out.1.load;have l2:=H9.out.2.2.2.1.load;have z1:=H9.out.1.lt;have z2:=H9.out.2.2.2.1.lt;have HSP:=hide (z8v x.p v1 u1 _ _ wd H9.out.1.2.1 H9.out.2.2.2.1.2.1);clear H7 H8 HR7 HB4 HB3 HB2 m1 _m
  go_wp2_with (first
   | (go_at_call 24;refine HCK.out.mono ?_;rintro e w' ⟨rfl,rfl⟩)
   | (go_at_call 22;refine HSP.out.mono ?_;rintro e we ⟨rfl,be⟩;have HE:=hide be;have l3:=(H9.out.2.1.over be).load;have l4:=(H9.out.2.2.2.2.1.over be).load;have z3:=(H9.out.2.1.over be).lt;have z4:=(H9.out.2.2.2.2.1.over be).lt;have HSC:=hide (z5W (x.c 0) v2 u2 _ _ we (H9.out.2.1.over be).2.1 (H9.out.2.2.2.2.1.over be).2.1);clear l1 l2 z1 z2 be)
   | (go_at_call 23;have _m:=m2;refine HSD.out.mono ?_;rintro e wg ⟨rfl,bg⟩;have HG:=hide (zbt HF.out bg);clear bg)
   | (go_at_call 23;refine HSC.out.mono ?_;rintro e wf ⟨rfl,bf⟩;have m2:=trivial;have HF:=hide (zbt HE.out bf);have l5:=(H9.out.2.2.1.over HF.out).load;have l6:=(H9.out.2.2.2.2.2.1.over HF.out).load;have z5:=(H9.out.2.2.1.over HF.out).lt;have z6:=(H9.out.2.2.2.2.2.1.over HF.out).lt;have HSD:=hide (z5W (x.c 1) v3 u3 _ _ wf (H9.out.2.2.1.over HF.out).2.1 (H9.out.2.2.2.2.2.1.over HF.out).2.1);clear l3 l4 z3 z4 bf))
  go_ret;exact ⟨rfl,zbt H9.out.2.2.2.2.2.2 HG.out⟩
end Wd
end Go.Proofs.YtknaapahicaobaaGreat
