/- Parts of the proof. -/
import Derived.Test.YtmopekkhmhhcaaaGreatEL
import Derived.Test.YtmopekkhmhhcaaaGreatEK0
import Derived.Test.YtmopekkhmhhcaaaGreatEK38
set_option maxRecDepth 100000
set_option maxHeartbeats 16000000
namespace Go.Proofs.YtmopekkhmhhcaaaGreat
open Go.Proofs.Tryz
section
open Go.RowKit
theorem q1o{S:Nat->Nat->Int}{v:Nat}:∀ j,z2Z S v j=true->0<=psh S v j/\psh S v j<=1125899906842624 * (j:Int)
 | 0,_=>by simp[psh]
 | j+1,h=>by
  simp only[z2Z,Bool.and_eq_true,z0B]at h;have h1:=q1o j h.1;have h2:=h.2;simp only[psh];omega
theorem q5J{S:Nat->Nat->Int}{v j:Nat}{x:Int}(hj:j<4)(hin:inA (S j v)=false):q5o S v x=false:=by
 unfold q5o
 rcases (show j=0∨j=1∨j=2∨j=3 by omega) with rfl | rfl | rfl | rfl <;> simp[z2Z,hin]
theorem q9U{S:Nat->Nat->Int}{v:Nat}{x:Int}(h:z2Z S v 4=true):q5o S v x=decide (psh S v 4=x):=by
 unfold q5o;rw[h,Bool.true_and]
theorem z8l(s:St)(sl:Value)(b v:Nat)(hv:v<6)(w:World)(h:SAt w b (stC s sl)) :
  Calls prog 142 #[.pointer (some ⟨b,0,none⟩),.int .i64 (v:Int)] w fun e w'=>e=.returned (.bool (q5o s.S v (s.V v).sh))/\w=w':=by
 have HS:Hid (SAt w b (stC s sl)):=h;have hv':(v:Int)<6:=by omega
 obtain ⟨_,hsh,_⟩:=h.val v hv;clear h
 go_enter func142,ntmps142
 go_wp2
 go_loop [5,8] (fun s5 i=>∃ (j:Nat),j<=4/\i=.int .i64 (j:Int)/\s5=.int .i64 (psh s.S v j)/\Hid (z2Z s.S v j=true)) (fun _ i=>(4 - intOf i).toNat)
 case atStart=>exact ⟨0,by omega,rfl,rfl,rfl⟩
 case round =>
  obtain ⟨j,hj,rfl,rfl,HR⟩:=hrel
  by_cases hlt:j<4
  ·have hlt':(j:Int)<4:=by omega
   have hc:=HS.out.shr j v hlt hv;have i1:=z4Z (s.S j v);have hpb:=q1o j HR.out
   by_cases hin:inA (s.S j v)=true
   ·rw[hin]at i1;have HR2:Hid (z2Z s.S v (j+1)=true):=by show (z2Z s.S v j && inA (s.S j v))=true;rw[HR.out,hin];rfl
    rw[z0B]at hin;have hps:psh s.S v (j+1)=psh s.S v j+s.S j v:=rfl;have HP:Hid (psh s.S v (j+1)=psh s.S v j+s.S j v):=hps;clear hps
    go_wp2_with (go_at_call 147;refine (i1 _).mono ?_;rintro e w5 ⟨rfl,rfl⟩)
    go_round
    case rel=>exact ⟨j+1,by omega,by go_num,by rw[HP.out],HR2.out⟩
    case measure=>simp[intOf];omega
   ·simp only[Bool.not_eq_true]at hin;rw[hin]at i1;have HF:Hid (q5o s.S v (s.V v).sh=false):=q5J hlt hin;clear hin
    go_wp2_with (go_at_call 147;refine (i1 _).mono ?_;rintro e w5 ⟨rfl,rfl⟩)
    go_ret;exact ⟨by rw[HF.out];rfl,rfl⟩
  ·obtain rfl:j=4:=by omega
   have HF:Hid (q5o s.S v (s.V v).sh=decide (psh s.S v 4=(s.V v).sh)):=q9U HR.out;go_wp2;go_ret;exact ⟨by rw[HF.out];congr 1,rfl⟩
theorem z8C{V:Nat->Vd}:∀ k,(∀ i,i<k->inA (V i).tok=true)->0<=z8m V k/\z8m V k<=1125899906842624 * (k:Int)
 | 0,_=>by simp[z8m]
 | k+1,h=>by
  have h1:=z8C k (fun i hi=>h i (by omega))
  have h2:=z0B.1 (h k (by omega))
  simp only[z8m]at *;omega
theorem z7g{V:Nat->Vd}:∀ k,(∀ i,i<k->inA (V i).lost=true)->0<=z3l V k/\z3l V k<=1125899906842624 * (k:Int)
 | 0,_=>by simp[z3l]
 | k+1,h=>by
  have h1:=z7g k (fun i hi=>h i (by omega))
  have h2:=z0B.1 (h k (by omega))
  simp only[z3l]at *;omega
theorem q9g{W:List Wt}{k:Nat}{x:Wt}(h:W[k]?=some x):z2q (W.take (k+1))=z2q (W.take k)+x.amt:=by
 have hk:=(List.getElem?_eq_some_iff.1 h).1;rw[List.take_succ_eq_append_getElem hk];have e:W[k]=x:=by simpa [List.getElem?_eq_getElem hk] using h
 rw[e];generalize W.take k=l
 induction l with
 | nil=>simp[z2q]
 | cons y r ih=>simp only[List.cons_append,z2q,ih];omega
theorem z8Q:∀ {l:List Wt},(∀ x∈l,inA x.amt=true)->0<=z2q l/\z2q l<=1125899906842624 * (l.length:Int)
 | [],_=>by simp[z2q]
 | x :: r,h=>by
  have h1:=z8Q (l:=r) (fun y hy=>h y (List.mem_cons_of_mem _ hy));have h2:=z0B.1 (h x List.mem_cons_self);simp only[z2q,List.length_cons];omega
theorem z8e(s:St)(ao:Option Addr)(sb so c b:Nat)(w:World)(h:SAt w b (stC s (.slice ao s.W.length c)))(hW:z2h w ao sb so s.W)(hl:s.W.length<=60)
  (hv:∀ i,i<6->inA (s.V i).tok=true/\inA (s.V i).lost=true) (ha:∀ x∈s.W,inA x.amt=true) :
  Calls prog 143 #[.pointer (some ⟨b,0,none⟩)] w fun e w'=>e=.returned (.bool (bal s))/\Below w.heap.size w w':=by
 have HS:Hid (SAt w b (stC s (.slice ao s.W.length c))):=h;have HV:Hid (∀ i,i<6->inA (s.V i).tok=true/\inA (s.V i).lost=true):=hv;have HA:Hid (∀ x∈s.W,inA x.amt=true):=ha;have HW:Hid (z2h w ao sb so s.W):=hW;have hrg:=j3Z h;have hblt:b<w.heap.size:=h.lt;clear hv ha h hW
 go_enter func143,ntmps143
 go_upto_region 2 with fail
 apply wp_region_lit
 iterate 9 go_step
 refine wpList_load_mid rfl 38 _ rfl b 7 rfl _ _ hrg underlying38 rfl (by rw[j2W];rfl) ?_
 clear hrg
 go_wp2_with fail
 go_loopw [3,4,14] (fun s3 s4 i wl=>∃ k:Nat,k<=6/\i=.int .i64 (k:Int)/\s3=.int .i64 (z8m s.V k)/\s4=.int .i64 (z3l s.V k)/\Hid (Below w.heap.size w wl)) (fun _ _ i _=>(6 - intOf i).toNat)
 case atStart=>exact ⟨0,by omega,rfl,rfl,rfl,Below.refl _ _⟩
 case round =>
  obtain ⟨k,hk,rfl,rfl,rfl,HB⟩:=hrel;have hsz:w.heap.size<=wr.heap.size:=HB.out.size
  by_cases hk6:k<6
  ·have hix:=fun w=>ixV w s.V k hk6;have b1:=z8C (V:=s.V) k (fun i hi=>(HV.out i (by omega)).1)
   have b2:=z7g (V:=s.V) k (fun i hi=>(HV.out i (by omega)).2)
   have b3:=z0B.1 (HV.out k hk6).1;have b4:=z0B.1 (HV.out k hk6).2;have P1:Hid (z8m s.V (k+1)=z8m s.V k+(s.V k).tok):=rfl;have P2:Hid (z3l s.V (k+1)=z3l s.V k+(s.V k).lost):=rfl
   go_wp2_with fail
   go_roundw
   case rel=>exact ⟨k+1,by omega,by go_num,by rw[P1.out],by rw[P2.out],HB.out.alloc hsz _⟩
   case measure=>simp[intOf];omega
  ·obtain rfl:k=6:=by omega
   rename World=>w1
   have S1:=HS.out.later HB.out hblt;obtain ⟨x0,x1,x2,x3,x4,x5,x6,x7,x8⟩:=z0q S1;have HS1:Hid (SAt w1 b (stC s (.slice ao s.W.length c))):=S1;have HW1:Hid (z2h w1 ao sb so s.W):=HW.out.over HB.out;have hadr:=HW.out.adr;clear x0 x1 x2 x3 x4 x5 x6 x8 S1 HS HW
   go_wp2_with fail
   clear x7
   go_loopw [5,31] (fun s5 i wl=>∃ k:Nat,k<=s.W.length/\i=.int .i64 (k:Int)/\s5=.int .i64 (z2q (s.W.take k))/\Hid (Below w1.heap.size w1 wl)) (fun _ i _=>s.W.length - (intOf i).toNat)
   case atStart=>exact ⟨0,by omega,rfl,rfl,Below.refl _ _⟩
   case round =>
    obtain ⟨k,hk,rfl,rfl,HB1⟩:=hrel;have hsz1:w1.heap.size<=wr.heap.size:=HB1.out.size
    by_cases hlt:k<s.W.length
    ·obtain ⟨x,hx,_⟩:=drop_at hlt;obtain ⟨c0,c1,c2,c3,c4,c5,c6,c7⟩:=(HW1.out.over HB1.out).cell k x hx;have P1:Hid (z2q (s.W.take (k+1))=z2q (s.W.take k)+x.amt):=q9g hx;have b1:=z8Q (l:=s.W.take k) (fun y hy=>HA.out y (List.mem_of_mem_take hy));rw[List.length_take,Nat.min_eq_left hk]at b1;have b2:=z0B.1 (HA.out x (List.mem_of_getElem? hx));obtain rfl:=hadr (by omega)
     clear hadr hx
     go_wp2_with fail
     go_roundw
     case rel=>exact ⟨k+1,by omega,by go_num,by rw[P1.out],HB1.out.alloc hsz1 _⟩
     case measure=>simp[intOf];omega
    ·have S1:=HS1.out.later HB1.out (by omega)
     obtain ⟨x0,x1,x2,x3,x4,x5,x6,x7,x8⟩:=z0q S1;have HF:Hid (bal s=(decide (z8m s.V 6=s.b.bo) && decide (z2q (s.W.take k)=s.b.wa) && decide (z3l s.V 6=s.b.bu))):=by rw[List.take_of_length_le (by omega)];exact rfl
     clear x0 x1 x2 x3 x7 x8 S1;generalize z8m s.V 6=pt at *;generalize z3l s.V 6=pl at *;generalize z2q (s.W.take k)=pa at *
     go_wp2_with fail
     all_goals (go_ret;refine ⟨?_,HB.out.trans (HB1.out.mono hsz)⟩;rw[HF.out];congr 1;congr 1;first | (simp_all;done) | (simp_all;rfl))
theorem z6b{f:Nat}{args:Array Value}{w0 w:World}{b:Nat}{v:Value}{f0 f1 f2 f3 bo wa bu:Int}(h:Calls prog f args w fun e w'=>e=.returned v/\Below w.heap.size w w')
  (hb:b<w0.heap.size) (hS:w.cell? ⟨b,0,none⟩=some (.int .i64 f0)/\w.cell? ⟨b,1,none⟩=some (.int .i64 f1)/\w.cell? ⟨b,2,none⟩=some (.int .i64 f2)/\w.cell? ⟨b,3,none⟩=some (.int .i64 f3)/\w.cell? ⟨b,4,none⟩=some (.int .i64 bo)/\w.cell? ⟨b,5,none⟩=some (.int .i64 wa)/\w.cell? ⟨b,6,none⟩=some (.int .i64 bu)/\Below w0.heap.size w0 w) :
  Calls prog f args w fun e w'=>e=.returned v/\w'.cell? ⟨b,0,none⟩=some (.int .i64 f0)/\w'.cell? ⟨b,1,none⟩=some (.int .i64 f1)/\w'.cell? ⟨b,2,none⟩=some (.int .i64 f2)/\w'.cell? ⟨b,3,none⟩=some (.int .i64 f3)/\w'.cell? ⟨b,4,none⟩=some (.int .i64 bo)/\w'.cell? ⟨b,5,none⟩=some (.int .i64 wa)/\w'.cell? ⟨b,6,none⟩=some (.int .i64 bu)/\Below w0.heap.size w0 w':=by
 refine h.mono ?_;rintro e w' ⟨rfl,hb'⟩;obtain ⟨h0,h1,h2,h3,h4,h5,h6,hB⟩:=hS;have k:∀ o,w'.cell? ⟨b,o,none⟩=w.cell? ⟨b,o,none⟩:=fun o=>hb'.cell (Nat.lt_of_lt_of_le hb hB.size);exact ⟨rfl,(k 0).trans h0,(k 1).trans h1,(k 2).trans h2,(k 3).trans h3,(k 4).trans h4,(k 5).trans h5,(k 6).trans h6,hB.trans (hb'.mono hB.size)⟩
theorem z0g{n:Int}(h0:-9223372036854775808<=n)(h1:n<9223372036854775808):wrap64 n=n:=by
 unfold wrap64;omega
theorem j3K(f0 f1 f2 f3 bo wa bu:Int)(w:World)(y0 y1 y2 y3 y4 y5 y6:Int)(hne:∀ w,(binOp .eql 35 (.agg #[.int .i64 y0,.int .i64 y1,.int .i64 y2,.int .i64 y3,.int .i64 y4,.int .i64 y5,.int .i64 y6]) (.agg #[.int .i64 f0,.int .i64 f1,.int .i64 f2,.int .i64 f3,.int .i64 bo,.int .i64 wa,.int .i64 bu])).run prog w=.ok (.bool false) w)
  (hcl:∀ w,Calls prog 168 #[.agg #[.int .i64 f0,.int .i64 f1,.int .i64 f2,.int .i64 f3,.int .i64 bo,.int .i64 wa,.int .i64 bu]] w fun e w'=>e=.returned (.agg #[.int .i64 y0,.int .i64 y1,.int .i64 y2,.int .i64 y3,.int .i64 y4,.int .i64 y5,.int .i64 y6])/\Below w.heap.size w w') :
  Calls prog 139 #[.agg #[.int .i64 f0,.int .i64 f1,.int .i64 f2,.int .i64 f3,.int .i64 bo,.int .i64 wa,.int .i64 bu]] w fun e w'=>e=.returned (.bool false)/\Below w.heap.size w w':=by
 go_enter func139,ntmps139
 go_wp2_with fail
 have HB0:Hid (Below w.heap.size w (w.alloc (.cells #[.int .i64 f0,.int .i64 f1,.int .i64 f2,.int .i64 f3,.int .i64 bo,.int .i64 wa,.int .i64 bu] 35))):=znw w _;have B0:=BAt.new w f0 f1 f2 f3 bo wa bu;have hlt:w.heap.size<(w.alloc (.cells #[.int .i64 f0,.int .i64 f1,.int .i64 f2,.int .i64 f3,.int .i64 bo,.int .i64 wa,.int .i64 bu] 35)).heap.size:=by simp
 generalize w.alloc (.cells #[.int .i64 f0,.int .i64 f1,.int .i64 f2,.int .i64 f3,.int .i64 bo,.int .i64 wa,.int .i64 bu] 35)=w0 at *;obtain ⟨x0,x1,x2,x3,x4,x5,x6⟩:=id B0.cells;clear B0;have hbb:Below w0.heap.size w0 w0.drew:=(Below.refl _ _).drew
 go_region_with (go_at_call 168;refine (z6b (f0:=f0) (f1:=f1) (f2:=f2) (f3:=f3) (bo:=bo) (wa:=wa) (bu:=bu) (hcl _) hlt ?_).mono ?_;(simp[*]);rintro e wA ⟨rfl,z0,z1,z2,z3,z4,z5,z6,hA⟩)
 all_goals
  have HF:Hid (Below w.heap.size w wA):=HB0.out.trans (hA.mono (Nat.le_of_lt hlt));clear hA;go_wp2;go_ret;exact ⟨rfl,HF.out⟩
theorem j0V(f0 f1 f2 f3 bo wa bu s:Int)(r:Bool)(w:World)(heq:∀ w,(binOp .eql 35 (.agg #[.int .i64 f0,.int .i64 f1,.int .i64 f2,.int .i64 f3,.int .i64 bo,.int .i64 wa,.int .i64 bu]) (.agg #[.int .i64 f0,.int .i64 f1,.int .i64 f2,.int .i64 f3,.int .i64 bo,.int .i64 wa,.int .i64 bu])).run prog w=.ok (.bool true) w)
  (hcl:∀ w,Calls prog 168 #[.agg #[.int .i64 f0,.int .i64 f1,.int .i64 f2,.int .i64 f3,.int .i64 bo,.int .i64 wa,.int .i64 bu]] w fun e w'=>e=.returned (.agg #[.int .i64 f0,.int .i64 f1,.int .i64 f2,.int .i64 f3,.int .i64 bo,.int .i64 wa,.int .i64 bu])/\Below w.heap.size w w')
  (hsum:∀ w,Calls prog 169 #[.agg #[.int .i64 f0,.int .i64 f1,.int .i64 f2,.int .i64 f3,.int .i64 bo,.int .i64 wa,.int .i64 bu]] w fun e w'=>e=.returned (.int .i64 s)/\Below w.heap.size w w') (hr:(s == 400000)=r) :
  Calls prog 139 #[.agg #[.int .i64 f0,.int .i64 f1,.int .i64 f2,.int .i64 f3,.int .i64 bo,.int .i64 wa,.int .i64 bu]] w fun e w'=>e=.returned (.bool r)/\Below w.heap.size w w':=by
 go_enter func139,ntmps139
 go_wp2_with fail
 have HB0:Hid (Below w.heap.size w (w.alloc (.cells #[.int .i64 f0,.int .i64 f1,.int .i64 f2,.int .i64 f3,.int .i64 bo,.int .i64 wa,.int .i64 bu] 35))):=znw w _;have B0:=BAt.new w f0 f1 f2 f3 bo wa bu;have hlt:w.heap.size<(w.alloc (.cells #[.int .i64 f0,.int .i64 f1,.int .i64 f2,.int .i64 f3,.int .i64 bo,.int .i64 wa,.int .i64 bu] 35)).heap.size:=by simp
 generalize w.alloc (.cells #[.int .i64 f0,.int .i64 f1,.int .i64 f2,.int .i64 f3,.int .i64 bo,.int .i64 wa,.int .i64 bu] 35)=w0 at *;obtain ⟨x0,x1,x2,x3,x4,x5,x6⟩:=id B0.cells;clear B0;have hbb:Below w0.heap.size w0 w0.drew:=(Below.refl _ _).drew
 go_region_held3 (fun w'=>w'.cell? ⟨w.heap.size,0,none⟩=some (.int .i64 f0)/\w'.cell? ⟨w.heap.size,1,none⟩=some (.int .i64 f1)/\w'.cell? ⟨w.heap.size,2,none⟩=some (.int .i64 f2)/\w'.cell? ⟨w.heap.size,3,none⟩=some (.int .i64 f3)/\w'.cell? ⟨w.heap.size,4,none⟩=some (.int .i64 bo)/\w'.cell? ⟨w.heap.size,5,none⟩=some (.int .i64 wa)/\w'.cell? ⟨w.heap.size,6,none⟩=some (.int .i64 bu)/\Below w0.heap.size w0 w') (go_keep)
  (first
   | (go_at_call 168;refine (z6b (f0:=f0) (f1:=f1) (f2:=f2) (f3:=f3) (bo:=bo) (wa:=wa) (bu:=bu) (hcl _) hlt ?_).mono ?_;(simp[*]);rintro e wA ⟨rfl,hA⟩)
   | (go_at_call 169;refine (z6b (f0:=f0) (f1:=f1) (f2:=f2) (f3:=f3) (bo:=bo) (wa:=wa) (bu:=bu) (hsum _) hlt ?_).mono ?_;(simp[*]);rintro e wB ⟨rfl,hB⟩))
 have HF:Hid (Below w.heap.size w wB):=HB0.out.trans (hB.2.2.2.2.2.2.2.mono (Nat.le_of_lt hlt));clear hA hB;go_wp2;go_ret;exact ⟨rfl,HF.out⟩
theorem j2y(n:Int):cl n=n↔0<=n/\n<=400000:=by
 unfold cl;omega
theorem z0o(f0 f1 f2 f3 bo wa bu:Int)(w:World):Calls prog 139 #[.agg #[.int .i64 f0,.int .i64 f1,.int .i64 f2,.int .i64 f3,.int .i64 bo,.int .i64 wa,.int .i64 bu]] w fun e w'=>e=.returned (.bool (z1t f0 f1 f2 f3 bo wa bu))/\Below w.heap.size w w':=by
 have hc:=q1V f0 f1 f2 f3 bo wa bu;have he:=fun w=>eqB w (cl f0) (cl f1) (cl f2) (cl f3) (cl bo) (cl wa) (cl bu) f0 f1 f2 f3 bo wa bu
 by_cases h:cl f0=f0/\cl f1=f1/\cl f2=f2/\cl f3=f3/\cl bo=bo/\cl wa=wa/\cl bu=bu
 ·rw[decide_eq_true h]at he;obtain ⟨h0,h1,h2,h3,h4,h5,h6⟩:=h;rw[h0,h1,h2,h3,h4,h5,h6]at hc he;rw[j2y]at h0 h1 h2 h3 h4 h5 h6;refine j0V f0 f1 f2 f3 bo wa bu _ _ w he hc (q7l f0 f1 f2 f3 bo wa bu) ?_;rw[z0g (by omega) (by omega)]
  unfold z1t
  simp[h0,h1,h2,h3,h4,h5,h6]
  rfl
 ·rw[decide_eq_false h]at he
  have hn:z1t f0 f1 f2 f3 bo wa bu=false:=by
   unfold z1t;refine decide_eq_false fun g=>h ?_;simp only[j2y];exact ⟨g.1,g.2.1,g.2.2.1,g.2.2.2.1,g.2.2.2.2.1,g.2.2.2.2.2.1,g.2.2.2.2.2.2.1⟩
  rw[hn];exact j3K f0 f1 f2 f3 bo wa bu w _ _ _ _ _ _ _ he hc
theorem z0O{w wq:World}(R:BAt wq (w.heap.size+1) 0 0 0 0 0 0 0)(H:Below w.heap.size w wq)(r0 r1 r2 r3 r4 r5 r6 er:Int)(act:Act)
  (h8:act.tmps.getD 8 undef=.pointer (some ⟨w.heap.size+1,0,none⟩)) (h9:act.tmps.getD 9 undef=.int .i64 er) (hd:act.defers=[]) :
  bodyPost prog f150 (fun e w'=>e=.returned (.tuple #[.agg #[.int .i64 r0,.int .i64 r1,.int .i64 r2,.int .i64 r3,.int .i64 r4,.int .i64 r5,.int .i64 r6],.int .i64 er])/\Below w.heap.size w w') Exit.ret act
   (z6A wq (w.heap.size+1) r0 r1 r2 r3 r4 r5 r6):=by
 have HR:=R.z6A r0 r1 r2 r3 r4 r5 r6;have HW:=z2M (b:=w.heap.size+1) H (by omega) r0 r1 r2 r3 r4 r5 r6
 generalize z6A wq (w.heap.size+1) r0 r1 r2 r3 r4 r5 r6=w9 at *;obtain ⟨u0,u1,u2,u3,u4,u5,u6⟩:=HR.cells;have h8':act.tmps[8]?.getD undef=.pointer (some ⟨w.heap.size+1,0,none⟩):=by simpa using h8
 have h9':act.tmps[9]?.getD undef=.int .i64 er:=by simpa using h9
 exact bodyPost_ret (v:=.tuple #[.agg #[.int .i64 r0,.int .i64 r1,.int .i64 r2,.int .i64 r3,.int .i64 r4,.int .i64 r5,.int .i64 r6],.int .i64 er]) (by simp[results,results150,go_sem,h8',h9',u0,u1,u2,u3,u4,u5,u6]) hd ⟨rfl,HW⟩
theorem z1r{w w1:World}{f0 f1 f2 f3 bo wa bu:Int}(hb:Below ((w.alloc (.cells #[.int .i64 f0,.int .i64 f1,.int .i64 f2,.int .i64 f3,.int .i64 bo,.int .i64 wa,.int .i64 bu] 35)).alloc (.cells #[.int .i64 0,.int .i64 0,.int .i64 0,.int .i64 0,.int .i64 0,.int .i64 0,.int .i64 0] 35)).heap.size ((w.alloc (.cells #[.int .i64 f0,.int .i64 f1,.int .i64 f2,.int .i64 f3,.int .i64 bo,.int .i64 wa,.int .i64 bu] 35)).alloc (.cells #[.int .i64 0,.int .i64 0,.int .i64 0,.int .i64 0,.int .i64 0,.int .i64 0,.int .i64 0] 35)) w1):BAt w1 w.heap.size f0 f1 f2 f3 bo wa bu/\BAt w1 (w.heap.size+1) 0 0 0 0 0 0 0/\Hid (Below w.heap.size w w1):=by
 refine ⟨((BAt.new w f0 f1 f2 f3 bo wa bu).alloc (.cells #[.int .i64 0,.int .i64 0,.int .i64 0,.int .i64 0,.int .i64 0,.int .i64 0,.int .i64 0] 35)).later hb (by simp;omega),?_,((znw w _).alloc (by simp) _).trans (hb.mono (by simp;omega))⟩
 have:=(BAt.new (w.alloc (.cells #[.int .i64 f0,.int .i64 f1,.int .i64 f2,.int .i64 f3,.int .i64 bo,.int .i64 wa,.int .i64 bu] 35)) 0 0 0 0 0 0 0).later hb (by simp)
 simpa using this
theorem q4Z(f0 f1 f2 f3 bo wa bu n:Int)(c:Nat)(w:World)(hc:w.cell? ⟨c,0,none⟩=some (.int .i64 0))(hcl:c<w.heap.size)(hg:z1t f0 f1 f2 f3 bo wa bu=true)(hn0:0<=n)(hn1:n<=1125899906842624)(hle:n<=wa) :
  Calls prog 150 #[.agg #[.int .i64 f0,.int .i64 f1,.int .i64 f2,.int .i64 f3,.int .i64 bo,.int .i64 wa,.int .i64 bu],(.func (.func 174) #[] #[]),(.func (.func 172) #[] #[.pointer (some ⟨c,0,none⟩)]),.int .i64 n] w fun e w'=>e=.returned (.tuple #[.agg #[.int .i64 (f0+n),.int .i64 f1,.int .i64 f2,.int .i64 f3,.int .i64 bo,.int .i64 (wa - n),.int .i64 bu],.int .i64 0])/\Below w.heap.size w w':=by
 have hG:=z0o f0 f1 f2 f3 bo wa bu;rw[hg]at hG;have hI:=z1q n;rw[decide_eq_true ⟨hn0,hn1⟩]at hI;unfold z1t at hg;obtain ⟨g0,g1,g2,g3,g4,g5,g6,gs⟩:=of_decide_eq_true hg;clear hg;have k1:wrap64 (wa - n)=wa - n:=z0g (by omega) (by omega)
 have k2:wrap64 (f0+n)=f0+n:=z0g (by omega) (by omega)
 clear g0 g1 g2 g3 g4 g5 g6 gs hn0 hn1
 go_enter func150,ntmps150
 go_wp2_with fail
 refine (hG _).mono ?_;rintro e w1 ⟨rfl,hb⟩;obtain ⟨B1,R1,HB⟩:=z1r hb;clear hb;have hc2:w1.cell? ⟨c,0,none⟩=some (.int .i64 0):=(HB.out.cell hcl).trans hc;have hc4:(w1.setCell ⟨w.heap.size,5,none⟩ (.int .i64 (wa - n))).cell? ⟨c,0,none⟩=some (.int .i64 0):=(World.cell?_of_block (w:=w1) (Below.heap_setCell _ _ _ _ (by simp;omega))).trans hc2
 clear hc hcl;obtain ⟨x0,x1,x2,x3,x4,x5,x6⟩:=B1.cells;have y0:=B1.frees.2.2.2.2.2.1;have y1:=B1.frees.1;obtain ⟨u0,u1,u2,u3,u4,u5,u6⟩:=R1.frees;obtain ⟨v0,v1,v2,v3,v4,v5,v6⟩:=R1.cells;have HR1:Hid (BAt w1 (w.heap.size+1) 0 0 0 0 0 0 0):=R1;clear B1 R1
 go_wp2_with (first
  | (go_at_call 147;refine (hI _).mono ?_;rintro e w2 ⟨rfl,rfl⟩)
  | (go_at_call 174;refine (z1d _ _).mono ?_;rintro e w2 ⟨rfl,rfl⟩)
  | (go_at_call 172;refine (z1b _ c 0 _ (by exact hc4) (by decide) (by decide)).mono ?_;rintro e w2 ⟨rfl,nq,rfl⟩))
 exact z0O (wq:=((w1.setCell ⟨w.heap.size,5,none⟩ (.int .i64 (wa - n))).drewN nq).setCell ⟨w.heap.size,0,none⟩ (.int .i64 (f0+n))) (BAt.other (w:=(w1.setCell ⟨w.heap.size,5,none⟩ (.int .i64 (wa - n))).drewN nq) (HR1.out.other (by omega) _) (by omega) _) ((below_drewN (HB.out.setCell (by simp) _) nq).setCell (by simp) _) (f0+n) f1 f2 f3 bo (wa - n) bu 0 _ rfl rfl rfl
theorem q5E(f0 f1 f2 f3 bo wa bu n:Int)(c:Nat)(w:World)(hc:w.cell? ⟨c,0,none⟩=some (.int .i64 1))(hcl:c<w.heap.size)(hg:z1t f0 f1 f2 f3 bo wa bu=true)(hn0:0<=n)(hn1:n<=1125899906842624)(hle:n<=wa) :
  Calls prog 150 #[.agg #[.int .i64 f0,.int .i64 f1,.int .i64 f2,.int .i64 f3,.int .i64 bo,.int .i64 wa,.int .i64 bu],(.func (.func 174) #[] #[]),(.func (.func 172) #[] #[.pointer (some ⟨c,0,none⟩)]),.int .i64 n] w fun e w'=>e=.returned (.tuple #[.agg #[.int .i64 f0,.int .i64 (f1+n),.int .i64 f2,.int .i64 f3,.int .i64 bo,.int .i64 (wa - n),.int .i64 bu],.int .i64 0])/\Below w.heap.size w w':=by
 have hG:=z0o f0 f1 f2 f3 bo wa bu;rw[hg]at hG;have hI:=z1q n;rw[decide_eq_true ⟨hn0,hn1⟩]at hI;unfold z1t at hg;obtain ⟨g0,g1,g2,g3,g4,g5,g6,gs⟩:=of_decide_eq_true hg;clear hg;have k1:wrap64 (wa - n)=wa - n:=z0g (by omega) (by omega)
 have k2:wrap64 (f1+n)=f1+n:=z0g (by omega) (by omega)
 clear g0 g1 g2 g3 g4 g5 g6 gs hn0 hn1
 go_enter func150,ntmps150
 go_wp2_with fail
 refine (hG _).mono ?_;rintro e w1 ⟨rfl,hb⟩;obtain ⟨B1,R1,HB⟩:=z1r hb;clear hb;have hc2:w1.cell? ⟨c,0,none⟩=some (.int .i64 1):=(HB.out.cell hcl).trans hc;have hc4:(w1.setCell ⟨w.heap.size,5,none⟩ (.int .i64 (wa - n))).cell? ⟨c,0,none⟩=some (.int .i64 1):=(World.cell?_of_block (w:=w1) (Below.heap_setCell _ _ _ _ (by simp;omega))).trans hc2
 clear hc hcl;obtain ⟨x0,x1,x2,x3,x4,x5,x6⟩:=B1.cells;have y0:=B1.frees.2.2.2.2.2.1;have y1:=B1.frees.2.1;obtain ⟨u0,u1,u2,u3,u4,u5,u6⟩:=R1.frees;obtain ⟨v0,v1,v2,v3,v4,v5,v6⟩:=R1.cells;have HR1:Hid (BAt w1 (w.heap.size+1) 0 0 0 0 0 0 0):=R1;clear B1 R1
 go_wp2_with (first
  | (go_at_call 147;refine (hI _).mono ?_;rintro e w2 ⟨rfl,rfl⟩)
  | (go_at_call 174;refine (z1d _ _).mono ?_;rintro e w2 ⟨rfl,rfl⟩)
  | (go_at_call 172;refine (z1b _ c 1 _ (by exact hc4) (by decide) (by decide)).mono ?_;rintro e w2 ⟨rfl,nq,rfl⟩))
 exact z0O (wq:=((w1.setCell ⟨w.heap.size,5,none⟩ (.int .i64 (wa - n))).drewN nq).setCell ⟨w.heap.size,1,none⟩ (.int .i64 (f1+n))) (BAt.other (w:=(w1.setCell ⟨w.heap.size,5,none⟩ (.int .i64 (wa - n))).drewN nq) (HR1.out.other (by omega) _) (by omega) _) ((below_drewN (HB.out.setCell (by simp) _) nq).setCell (by simp) _) f0 (f1+n) f2 f3 bo (wa - n) bu 0 _ rfl rfl rfl
theorem q5B(f0 f1 f2 f3 bo wa bu n:Int)(c:Nat)(w:World)(hc:w.cell? ⟨c,0,none⟩=some (.int .i64 2))(hcl:c<w.heap.size)(hg:z1t f0 f1 f2 f3 bo wa bu=true)(hn0:0<=n)(hn1:n<=1125899906842624)(hle:n<=wa) :
  Calls prog 150 #[.agg #[.int .i64 f0,.int .i64 f1,.int .i64 f2,.int .i64 f3,.int .i64 bo,.int .i64 wa,.int .i64 bu],(.func (.func 174) #[] #[]),(.func (.func 172) #[] #[.pointer (some ⟨c,0,none⟩)]),.int .i64 n] w fun e w'=>e=.returned (.tuple #[.agg #[.int .i64 f0,.int .i64 f1,.int .i64 (f2+n),.int .i64 f3,.int .i64 bo,.int .i64 (wa - n),.int .i64 bu],.int .i64 0])/\Below w.heap.size w w':=by
 have hG:=z0o f0 f1 f2 f3 bo wa bu;rw[hg]at hG;have hI:=z1q n;rw[decide_eq_true ⟨hn0,hn1⟩]at hI;unfold z1t at hg;obtain ⟨g0,g1,g2,g3,g4,g5,g6,gs⟩:=of_decide_eq_true hg;clear hg;have k1:wrap64 (wa - n)=wa - n:=z0g (by omega) (by omega)
 have k2:wrap64 (f2+n)=f2+n:=z0g (by omega) (by omega)
 clear g0 g1 g2 g3 g4 g5 g6 gs hn0 hn1
 go_enter func150,ntmps150
 go_wp2_with fail
 refine (hG _).mono ?_;rintro e w1 ⟨rfl,hb⟩;obtain ⟨B1,R1,HB⟩:=z1r hb;clear hb;have hc2:w1.cell? ⟨c,0,none⟩=some (.int .i64 2):=(HB.out.cell hcl).trans hc;have hc4:(w1.setCell ⟨w.heap.size,5,none⟩ (.int .i64 (wa - n))).cell? ⟨c,0,none⟩=some (.int .i64 2):=(World.cell?_of_block (w:=w1) (Below.heap_setCell _ _ _ _ (by simp;omega))).trans hc2
 clear hc hcl;obtain ⟨x0,x1,x2,x3,x4,x5,x6⟩:=B1.cells;have y0:=B1.frees.2.2.2.2.2.1;have y1:=B1.frees.2.2.1;obtain ⟨u0,u1,u2,u3,u4,u5,u6⟩:=R1.frees;obtain ⟨v0,v1,v2,v3,v4,v5,v6⟩:=R1.cells;have HR1:Hid (BAt w1 (w.heap.size+1) 0 0 0 0 0 0 0):=R1;clear B1 R1
 go_wp2_with (first
  | (go_at_call 147;refine (hI _).mono ?_;rintro e w2 ⟨rfl,rfl⟩)
  | (go_at_call 174;refine (z1d _ _).mono ?_;rintro e w2 ⟨rfl,rfl⟩)
  | (go_at_call 172;refine (z1b _ c 2 _ (by exact hc4) (by decide) (by decide)).mono ?_;rintro e w2 ⟨rfl,nq,rfl⟩))
 exact z0O (wq:=((w1.setCell ⟨w.heap.size,5,none⟩ (.int .i64 (wa - n))).drewN nq).setCell ⟨w.heap.size,2,none⟩ (.int .i64 (f2+n))) (BAt.other (w:=(w1.setCell ⟨w.heap.size,5,none⟩ (.int .i64 (wa - n))).drewN nq) (HR1.out.other (by omega) _) (by omega) _) ((below_drewN (HB.out.setCell (by simp) _) nq).setCell (by simp) _) f0 f1 (f2+n) f3 bo (wa - n) bu 0 _ rfl rfl rfl
theorem q4a(f0 f1 f2 f3 bo wa bu n:Int)(c:Nat)(w:World)(hc:w.cell? ⟨c,0,none⟩=some (.int .i64 3))(hcl:c<w.heap.size)(hg:z1t f0 f1 f2 f3 bo wa bu=true)(hn0:0<=n)(hn1:n<=1125899906842624)(hle:n<=wa) :
  Calls prog 150 #[.agg #[.int .i64 f0,.int .i64 f1,.int .i64 f2,.int .i64 f3,.int .i64 bo,.int .i64 wa,.int .i64 bu],(.func (.func 174) #[] #[]),(.func (.func 172) #[] #[.pointer (some ⟨c,0,none⟩)]),.int .i64 n] w fun e w'=>e=.returned (.tuple #[.agg #[.int .i64 f0,.int .i64 f1,.int .i64 f2,.int .i64 (f3+n),.int .i64 bo,.int .i64 (wa - n),.int .i64 bu],.int .i64 0])/\Below w.heap.size w w':=by
 have hG:=z0o f0 f1 f2 f3 bo wa bu;rw[hg]at hG;have hI:=z1q n;rw[decide_eq_true ⟨hn0,hn1⟩]at hI;unfold z1t at hg;obtain ⟨g0,g1,g2,g3,g4,g5,g6,gs⟩:=of_decide_eq_true hg;clear hg;have k1:wrap64 (wa - n)=wa - n:=z0g (by omega) (by omega)
 have k2:wrap64 (f3+n)=f3+n:=z0g (by omega) (by omega)
 clear g0 g1 g2 g3 g4 g5 g6 gs hn0 hn1
 go_enter func150,ntmps150
 go_wp2_with fail
 refine (hG _).mono ?_;rintro e w1 ⟨rfl,hb⟩;obtain ⟨B1,R1,HB⟩:=z1r hb;clear hb;have hc2:w1.cell? ⟨c,0,none⟩=some (.int .i64 3):=(HB.out.cell hcl).trans hc;have hc4:(w1.setCell ⟨w.heap.size,5,none⟩ (.int .i64 (wa - n))).cell? ⟨c,0,none⟩=some (.int .i64 3):=(World.cell?_of_block (w:=w1) (Below.heap_setCell _ _ _ _ (by simp;omega))).trans hc2
 clear hc hcl;obtain ⟨x0,x1,x2,x3,x4,x5,x6⟩:=B1.cells;have y0:=B1.frees.2.2.2.2.2.1;have y1:=B1.frees.2.2.2.1;obtain ⟨u0,u1,u2,u3,u4,u5,u6⟩:=R1.frees;obtain ⟨v0,v1,v2,v3,v4,v5,v6⟩:=R1.cells;have HR1:Hid (BAt w1 (w.heap.size+1) 0 0 0 0 0 0 0):=R1;clear B1 R1
 go_wp2_with (first
  | (go_at_call 147;refine (hI _).mono ?_;rintro e w2 ⟨rfl,rfl⟩)
  | (go_at_call 174;refine (z1d _ _).mono ?_;rintro e w2 ⟨rfl,rfl⟩)
  | (go_at_call 172;refine (z1b _ c 3 _ (by exact hc4) (by decide) (by decide)).mono ?_;rintro e w2 ⟨rfl,nq,rfl⟩))
 exact z0O (wq:=((w1.setCell ⟨w.heap.size,5,none⟩ (.int .i64 (wa - n))).drewN nq).setCell ⟨w.heap.size,3,none⟩ (.int .i64 (f3+n))) (BAt.other (w:=(w1.setCell ⟨w.heap.size,5,none⟩ (.int .i64 (wa - n))).drewN nq) (HR1.out.other (by omega) _) (by omega) _) ((below_drewN (HB.out.setCell (by simp) _) nq).setCell (by simp) _) f0 f1 f2 (f3+n) bo (wa - n) bu 0 _ rfl rfl rfl
end
end Go.Proofs.YtmopekkhmhhcaaaGreat
