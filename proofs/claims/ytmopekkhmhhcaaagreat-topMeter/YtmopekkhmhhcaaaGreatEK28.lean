/- Parts of the proof. -/
import Derived.Test.YtmopekkhmhhcaaaGreatEL
import Derived.Test.YtmopekkhmhhcaaaGreatEK18
set_option maxRecDepth 100000
set_option maxHeartbeats 16000000
namespace Go.Proofs.YtmopekkhmhhcaaaGreat
open Go.Proofs.Tryz
section
open Go.RowKit
theorem z8c{V:Nat->Vd}:∀ k,(∀ i,i<k->inA (V i).tok=true)->0<=z7I V k/\z7I V k<=1125899906842624 * (k:Int)
 | 0,_=>by simp[z7I]
 | k+1,h=>by
  have h1:=z8c k (fun i hi=>h i (by omega))
  have h2:=z0z.1 (h k (by omega))
  simp only[z7I]at *;omega
theorem z6Q{V:Nat->Vd}:∀ k,(∀ i,i<k->inA (V i).lost=true)->0<=z3p V k/\z3p V k<=1125899906842624 * (k:Int)
 | 0,_=>by simp[z3p]
 | k+1,h=>by
  have h1:=z6Q k (fun i hi=>h i (by omega))
  have h2:=z0z.1 (h k (by omega))
  simp only[z3p]at *;omega
theorem q6h{W:List Wt}{k:Nat}{x:Wt}(h:W[k]?=some x):z2u (W.take (k+1))=z2u (W.take k)+x.amt:=by
 have hk:=(List.getElem?_eq_some_iff.1 h).1;rw[List.take_succ_eq_append_getElem hk];have e:W[k]=x:=by simpa [List.getElem?_eq_getElem hk] using h
 rw[e];generalize W.take k=l
 induction l with
 | nil=>simp[z2u]
 | cons y r ih=>simp only[List.cons_append,z2u,ih];omega
theorem z8m:∀ {l:List Wt},(∀ x∈l,inA x.amt=true)->0<=z2u l/\z2u l<=1125899906842624 * (l.length:Int)
 | [],_=>by simp[z2u]
 | x :: r,h=>by
  have h1:=z8m (l:=r) (fun y hy=>h y (List.mem_cons_of_mem _ hy));have h2:=z0z.1 (h x List.mem_cons_self);simp only[z2u,List.length_cons];omega
theorem z7N(s:St)(ao:Option Addr)(sb so c b:Nat)(w:World)(h:SAt w b (stC s (.slice ao s.W.length c)))(hW:z2n w ao sb so s.W)(hl:s.W.length<=60)
  (hv:∀ i,i<6->inA (s.V i).tok=true/\inA (s.V i).lost=true) (ha:∀ x∈s.W,inA x.amt=true) :
  Calls prog 143 #[.pointer (some ⟨b,0,none⟩)] w fun e w'=>e=.returned (.bool (bal s))/\Below w.heap.size w w':=by
 have HS:Hid (SAt w b (stC s (.slice ao s.W.length c))):=h;have HV:Hid (∀ i,i<6->inA (s.V i).tok=true/\inA (s.V i).lost=true):=hv;have HA:Hid (∀ x∈s.W,inA x.amt=true):=ha;have HW:Hid (z2n w ao sb so s.W):=hW;have hrg:=j4M h;have hblt:b<w.heap.size:=h.lt;clear hv ha h hW
 go_enter func143,ntmps143
 go_upto_region 2 with fail
 apply wp_region_lit
 iterate 9 go_step
 refine wpList_load_mid rfl 38 _ rfl b 7 rfl _ _ hrg underlying38 rfl (by rw[q7w];rfl) ?_
 clear hrg
 go_wp2_with fail
 go_loopw [3,4,14] (fun s3 s4 i wl=>∃ k:Nat,k<=6/\i=.int .i64 (k:Int)/\s3=.int .i64 (z7I s.V k)/\s4=.int .i64 (z3p s.V k)/\Hid (Below w.heap.size w wl)) (fun _ _ i _=>(6 - intOf i).toNat)
 case atStart=>exact ⟨0,by omega,rfl,rfl,rfl,Below.refl _ _⟩
 case round =>
  obtain ⟨k,hk,rfl,rfl,rfl,HB⟩:=hrel;have hsz:w.heap.size<=wr.heap.size:=HB.out.size
  by_cases hk6:k<6
  ·have hix:=fun w=>ixV w s.V k hk6;have b1:=z8c (V:=s.V) k (fun i hi=>(HV.out i (by omega)).1)
   have b2:=z6Q (V:=s.V) k (fun i hi=>(HV.out i (by omega)).2)
   have b3:=z0z.1 (HV.out k hk6).1;have b4:=z0z.1 (HV.out k hk6).2;have P1:Hid (z7I s.V (k+1)=z7I s.V k+(s.V k).tok):=rfl;have P2:Hid (z3p s.V (k+1)=z3p s.V k+(s.V k).lost):=rfl
   go_wp2_with fail
   go_roundw
   case rel=>exact ⟨k+1,by omega,by go_num,by rw[P1.out],by rw[P2.out],HB.out.alloc hsz _⟩
   case measure=>simp[intOf];omega
  ·obtain rfl:k=6:=by omega
   rename World=>w1
   have S1:=HS.out.later HB.out hblt;obtain ⟨x0,x1,x2,x3,x4,x5,x6,x7,x8⟩:=z0p S1;have HS1:Hid (SAt w1 b (stC s (.slice ao s.W.length c))):=S1;have HW1:Hid (z2n w1 ao sb so s.W):=HW.out.over HB.out;have hadr:=HW.out.adr;clear x0 x1 x2 x3 x4 x5 x6 x8 S1 HS HW
   go_wp2_with fail
   clear x7
   go_loopw [5,31] (fun s5 i wl=>∃ k:Nat,k<=s.W.length/\i=.int .i64 (k:Int)/\s5=.int .i64 (z2u (s.W.take k))/\Hid (Below w1.heap.size w1 wl)) (fun _ i _=>s.W.length - (intOf i).toNat)
   case atStart=>exact ⟨0,by omega,rfl,rfl,Below.refl _ _⟩
   case round =>
    obtain ⟨k,hk,rfl,rfl,HB1⟩:=hrel;have hsz1:w1.heap.size<=wr.heap.size:=HB1.out.size
    by_cases hlt:k<s.W.length
    ·obtain ⟨x,hx,_⟩:=drop_at hlt;obtain ⟨c0,c1,c2,c3,c4,c5,c6,c7⟩:=(HW1.out.over HB1.out).cell k x hx;have P1:Hid (z2u (s.W.take (k+1))=z2u (s.W.take k)+x.amt):=q6h hx;have b1:=z8m (l:=s.W.take k) (fun y hy=>HA.out y (List.mem_of_mem_take hy));rw[List.length_take,Nat.min_eq_left hk]at b1;have b2:=z0z.1 (HA.out x (List.mem_of_getElem? hx));obtain rfl:=hadr (by omega)
     clear hadr hx
     go_wp2_with fail
     go_roundw
     case rel=>exact ⟨k+1,by omega,by go_num,by rw[P1.out],HB1.out.alloc hsz1 _⟩
     case measure=>simp[intOf];omega
    ·have S1:=HS1.out.later HB1.out (by omega)
     obtain ⟨x0,x1,x2,x3,x4,x5,x6,x7,x8⟩:=z0p S1;have HF:Hid (bal s=(decide (z7I s.V 6=s.b.bo) && decide (z2u (s.W.take k)=s.b.wa) && decide (z3p s.V 6=s.b.bu))):=by rw[List.take_of_length_le (by omega)];exact rfl
     clear x0 x1 x2 x3 x7 x8 S1;generalize z7I s.V 6=pt at *;generalize z3p s.V 6=pl at *;generalize z2u (s.W.take k)=pa at *
     go_wp2_with fail
     all_goals (go_ret;refine ⟨?_,HB.out.trans (HB1.out.mono hsz)⟩;rw[HF.out];congr 1;congr 1;first | (simp_all;done) | (simp_all;rfl))
theorem j2y{s:St}:∀ {n k:Nat},k<n->j3d s k=false->pvs s n=false
  | 0,_,h,_=>by omega
  | n+1,k,h,hk=>by
    rw[pvs]
    rcases (show k<n∨k=n by omega) with h' | rfl
    · rw[j2y h' hk,Bool.false_and]
    · rw[hk,Bool.and_false]
theorem q2S{s:St}:∀ {n k:Nat},pvs s n=true->k<n->j3d s k=true
  | 0,_,_,h=>by omega
  | n+1,k,h,hk=>by
    rw[pvs,Bool.and_eq_true]at h
    rcases (show k<n∨k=n by omega) with h' | rfl
    · exact q2S h.1 h'
    · exact h.2
theorem z2e{x:Vd}(h:vOk x=true):inA x.tok=true/\inA x.sh=true/\inA x.lost=true:=by
  unfold vOk at h;simp only[Bool.and_eq_true]at h;exact ⟨h.1.1.1.1,h.1.1.1.2,h.1.1.2⟩
theorem z7j{next:Int}:∀ {l:List Wt} {last:Int},wOk next last l=true->∀ x∈l,inA x.amt=true
  | [],_,_,x,hx=>by cases hx
  | y :: r,last,h,x,hx=>by
    rw[wOk,Bool.and_eq_true]at h
    rcases List.mem_cons.1 hx with rfl | hx
    · have:=h.1;unfold q0p at this;simp only[Bool.and_eq_true]at this;exact this.1.1.2
    · exact z7j h.2 x hx
theorem z6Y(s:St)(ao:Option Addr)(sb so c:Nat)(w:World)(hW:z2n w ao sb so s.W) :
    Calls prog 100 #[.agg (stC s (.slice ao s.W.length c))] w fun e w'=>e=.returned (.bool (z0h s))/\Below w.heap.size w w':=by
  have S0:=SAt.new w (stC s (.slice ao s.W.length c));have HB0:Hid (Below w.heap.size w (w.alloc (.cells (stC s (.slice ao s.W.length c)) 43))):=znw w _;have HW:Hid (z2n w ao sb so s.W):=hW;have hlen:=hW.len;have hGB:=z0l s.b.f0 s.b.f1 s.b.f2 s.b.f3 s.b.bo s.b.wa s.b.bu;have hWG:=fun w h=>z9j s.W ao sb so c s.next w h
  have HG:Hid (z0h s=(z1s s.b.f0 s.b.f1 s.b.f2 s.b.f3 s.b.bo s.b.wa s.b.bu && decide (1<=s.next) && decide (s.next<=1125899906842624) && decide (s.W.length<=60) && wOk s.next 0 s.W && pvs s 6 && bal s)):=rfl
  have HT2:Hid (wOk s.next 0 s.W=true->∀ x∈s.W,inA x.amt=true):=z7j
  generalize z1s s.b.f0 s.b.f1 s.b.f2 s.b.f3 s.b.bo s.b.wa s.b.bu=t1 at *;generalize wOk s.next 0 s.W=t2 at *
  clear hW
  go_enter func100,ntmps100
  go_upto_region 1 with fail
  generalize w.alloc (.cells (stC s (.slice ao s.W.length c)) 43)=w0 at *;obtain ⟨x0,x1,x2,x3,x4,x5,x6,x7,x8⟩:=z0p S0
  go_wp2_with (first
    | (go_at_call 139;refine (hGB _).mono ?_;rintro e w1 ⟨rfl,h1⟩;have S1:=S0.later h1 S0.lt;have HB1:Hid (Below w.heap.size w w1):=zbt HB0.out h1;obtain ⟨y0,y1,y2,y3,y4,y5,y6,y7,y8⟩:=z0p S1;clear x0 x1 x2 x3 x4 x5 x6 x7 x8 y0 y1 y2 y3 y4 y5 y6 h1 S0 HB0)
    | (go_at_call 140;refine (hWG _ (by exact HW.out.over HB1.out)).mono ?_;rintro e w2 ⟨rfl,h2⟩;have HB2:Hid (Below w.heap.size w w2):=zbt HB1.out h2;have S2:=S1.later h2 S1.lt;clear h2 S1 y7 y8))
  all_goals first
    | (go_ret;first | (refine ⟨?_,HB2.out⟩;rw[HG.out];congr 1;congr 1;first | (simp_all;done) | (cases t2 <;> simp_all <;> omega) | (simp_all;omega) | (simp_all;intros;omega)) | (refine ⟨?_,HB1.out⟩;rw[HG.out];congr 1;congr 1;first | (simp_all;done) | (simp_all;omega) | (simp_all;intros;omega)))
    | skip
  have hl60:s.W.length<=60:=by omega
  have hg2:z0h s=(pvs s 6 && bal s):=by rw[HG.out];simp_all
  have HG2:Hid (z0h s=(pvs s 6 && bal s)):=hg2;have HA:Hid (∀ x∈s.W,inA x.amt=true):=HT2.out (by simp_all)
  have hbl:w.heap.size<w2.heap.size:=S2.lt;clear HG HT2 hGB hWG HB1;clear hg2;obtain rfl:t2=true:=by simp_all
  simp only[Bool.not_true,Bool.or_false]
  go_loopw [30] (fun i wl=>∃ k:Nat,k<=6/\i=.int .i64 (k:Int)/\Hid (pvs s k=true/\Below w2.heap.size w2 wl)) (fun i _=>(6 - intOf i).toNat)
  case atStart=>exact ⟨0,by omega,rfl,rfl,Below.refl _ _⟩
  case round =>
    obtain ⟨k,hk,rfl,HR⟩:=hrel;have HB3:Hid (Below w.heap.size w wr):=HB2.out.trans (HR.out.2.mono (Nat.le_of_lt hbl));have S3:=S2.later HR.out.2 hbl;clear S2
    by_cases hk6:k<6
    · obtain ⟨c0,c1,c2,c3,c4⟩:=S3.val k hk6
      have hkk:(k:Int)<6:=by omega
      have j1:=z6b w.heap.size (7+k * 5) (s.V k) wr c0 c1 c2 c3 c4;have j2:=z7T s (.slice ao s.W.length c) w.heap.size k hk6 wr S3;have HV:Hid (j3d s k=(vOk (s.V k) && q4s s.S k (s.V k).sh)):=rfl;generalize vOk (s.V k)=t3 at *;generalize q4s s.S k (s.V k).sh=t4 at *;clear c0 c1 c2 c3 c4 S3
      go_wp2_with (first
        | (go_at_call 141;refine j1.mono ?_;rintro e w4 ⟨rfl,rfl⟩)
        | (go_at_call 142;refine j2.mono ?_;rintro e w4 ⟨rfl,rfl⟩))
      all_goals first
        | (go_ret;refine ⟨?_,HB3.out⟩;rw[HG2.out,j2y hk6 (by rw[HV.out];simp_all)];rfl)
        | (go_roundw
           case rel =>
             have hp:pvs s (k+1)=true:=by rw[pvs,HR.out.1,HV.out];simp_all
             exact ⟨k+1,by omega,by go_num,hp,HR.out.2⟩
           case measure=>simp[intOf];omega)
    · obtain rfl:k=6:=by omega
      have hj:=z7N s ao sb so c w.heap.size wr S3 (HW.out.over HB3.out) hl60 (fun i hi=>by have h:=q2S HR.out.1 hi;rw[j3d,Bool.and_eq_true]at h;exact ⟨(z2e h.1).1,(z2e h.1).2.2⟩) HA.out
      have hg3:z0h s=bal s:=by rw[HG2.out,HR.out.1,Bool.true_and]
      have HG3:Hid (z0h s=bal s):=hg3;clear hg3;generalize bal s=t5 at *;clear S3
      go_wp2_with (go_at_call 143;refine hj.mono ?_;rintro e w5 ⟨rfl,h5⟩)
      go_ret;refine ⟨?_,zbt HB3.out h5⟩;rw[HG3.out];rfl
theorem z1F(s:St)(ao:Option Addr)(sb so c b:Nat)(v:Int)(w:World)(h:SAt w b (stC s (.slice ao s.W.length c)))(hW:z2n w ao sb so s.W) :
  Calls prog 79 #[.pointer (some ⟨b,0,none⟩),.int .i64 v] w fun e w'=>e=.returned (.int .i64 (z5J s v))/\Below w.heap.size w w':=by
 have hrg:=h.range;have hG:=z6Y s ao sb so c w hW;have hV:=z6N v;unfold z5J;generalize z0h s=t1 at *;generalize isV v=t2 at *;clear h hW
 go_enter func79,ntmps79
 go_upto_region 1 with fail
 apply wp_region_lit
 iterate 6 go_step
 refine wpList_load_mid rfl 43 _ rfl b 0 rfl _ _ hrg underlying43 rfl (by rw[z0t];rfl) ?_
 clear hrg
 go_wp2_with (first
  | (go_at_call 100;refine hG.mono ?_;rintro e w1 ⟨rfl,hB⟩)
  | (go_at_call 48;refine (hV _).mono ?_;rintro e w2 ⟨rfl,rfl⟩))
 all_goals (go_ret;refine ⟨?_,hB⟩;first | (simp_all;done) | (congr 1;congr 1;simp_all))
theorem z2r(s:St)(ao:Option Addr)(sb so c b:Nat)(d v:Int)(w:World)(h:SAt w b (stC s (.slice ao s.W.length c)))(hW:z2n w ao sb so s.W) :
  Calls prog 104 #[.pointer (some ⟨b,0,none⟩),.int .i64 d,.int .i64 v] w fun e w'=>e=.returned (.int .i64 (z0S s d v))/\Below w.heap.size w w':=by
 have hG:=z1F s ao sb so c b v w h hW;have hV:=z8C d;unfold z0S;generalize z5J s v=t1 at *;generalize isD d=t2 at *;clear h hW
 go_enter func104,ntmps104
 go_wp2_with (first
  | (go_at_call 79;refine hG.mono ?_;rintro e w1 ⟨rfl,hB⟩)
  | (go_at_call 146;refine (hV _).mono ?_;rintro e w2 ⟨rfl,rfl⟩))
 all_goals (go_ret;refine ⟨?_,hB⟩;first | (simp_all;done) | (congr 1;congr 1;simp_all))
structure But(b:Nat)(w w':World):Prop where
 os:w'.os=w.os
 tape:w'.tape=w.tape
 output:w'.output=w.output
 size:w'.heap.size=w.heap.size
 block:∀ k,k≠b->w'.heap[k]?=w.heap[k]?
theorem But.refl(b:Nat)(w:World):But b w w:=⟨rfl,rfl,rfl,rfl,fun _ _=>rfl⟩
theorem But.set{b:Nat}{w w':World}(h:But b w w')(o:Nat)(v:Value):But b w (w'.setCell ⟨b,o,none⟩ v):=
 ⟨h.os,h.tape,h.output,(by simp[World.setCell];exact h.size),fun k hk=>(Below.heap_setCell _ _ _ _ hk).trans (h.block k hk)⟩
theorem But.below{b B:Nat}{w w':World}(h:But b w w')(hB:B<=b):Below B w w':=⟨h.os,h.tape,h.output,by rw[h.size];exact Nat.le_refl _,fun k hk=>h.block k (by omega)⟩
theorem But.z1d{b c:Nat}{w w':World}{cs:Array Value}(h:But b w w')(hc:c≠b)(S:SAt w c cs):SAt w' c cs:=(h.block c hc).trans S
theorem q8g(s:St)(sl:Value)(v:Nat)(hv:v<6)(x:Int):(stC s sl).setIfInBounds (7+v * 5) (.int .i64 x)=stC { s with V:=z1E s.V v { s.V v with tok:=x } } sl:=by
 rcases (show v=0∨v=1∨v=2∨v=3∨v=4∨v=5 by omega) with rfl | rfl | rfl | rfl | rfl | rfl <;> rfl
theorem j7Z(s:St)(sl:Value)(v:Nat)(hv:v<6)(x:Int):(stC s sl).setIfInBounds (7+v * 5+1) (.int .i64 x)=stC { s with V:=z1E s.V v { s.V v with sh:=x } } sl:=by
 rcases (show v=0∨v=1∨v=2∨v=3∨v=4∨v=5 by omega) with rfl | rfl | rfl | rfl | rfl | rfl <;> rfl
theorem q9U(s:St)(sl:Value)(v:Nat)(hv:v<6)(x:Int):(stC s sl).setIfInBounds (7+v * 5+2) (.int .i64 x)=stC { s with V:=z1E s.V v { s.V v with lost:=x } } sl:=by
 rcases (show v=0∨v=1∨v=2∨v=3∨v=4∨v=5 by omega) with rfl | rfl | rfl | rfl | rfl | rfl <;> rfl
theorem j2a(s:St)(sl:Value)(v:Nat)(hv:v<6)(x:Bool):(stC s sl).setIfInBounds (7+v * 5+3) (.bool x)=stC { s with V:=z1E s.V v { s.V v with jail:=x } } sl:=by
 rcases (show v=0∨v=1∨v=2∨v=3∨v=4∨v=5 by omega) with rfl | rfl | rfl | rfl | rfl | rfl <;> rfl
theorem j1Z(s:St)(sl:Value)(v:Nat)(hv:v<6)(x:Bool):(stC s sl).setIfInBounds (7+v * 5+4) (.bool x)=stC { s with V:=z1E s.V v { s.V v with dead:=x } } sl:=by
 rcases (show v=0∨v=1∨v=2∨v=3∨v=4∨v=5 by omega) with rfl | rfl | rfl | rfl | rfl | rfl <;> rfl
theorem j5f(s:St)(sl:Value)(d v:Nat)(hd:d<4)(hv:v<6)(x:Int):(stC s sl).setIfInBounds (37+d * 6+v) (.int .i64 x)=stC { s with S:=z5N s.S d v x } sl:=by
 rcases (show d=0∨d=1∨d=2∨d=3 by omega) with rfl | rfl | rfl | rfl <;> rcases (show v=0∨v=1∨v=2∨v=3∨v=4∨v=5 by omega) with rfl | rfl | rfl | rfl | rfl | rfl <;> rfl
theorem q9R(s:St)(sl:Value)(x:Int):(stC s sl).setIfInBounds 62 (.int .i64 x)=stC { s with next:=x } sl:=rfl
theorem z9V(s:St)(sl sl':Value):(stC s sl).setIfInBounds 61 sl'=stC s sl':=rfl
theorem q0n(V:Nat->Vd)(v:Nat)(x y:Vd):z1E (z1E V v x) v y=z1E V v y:=by funext i;unfold z1E;split <;> rfl
theorem z5Z(V:Nat->Vd)(v:Nat)(x:Vd):z1E V v x v=x:=if_pos rfl
theorem add_eq(s:St)(d v:Nat)(t n:Int):q2N s d v t n={ ({ ({ s with V:=z1E s.V v { s.V v with tok:=(s.V v).tok+t } }:St) with V:=z1E (z1E s.V v { s.V v with tok:=(s.V v).tok+t }) v { (z1E s.V v { s.V v with tok:=(s.V v).tok+t }) v with sh:=(s.V v).sh+n } }:St) with S:=z5N s.S d v (s.S d v+n) }:=by
 unfold q2N;rw[q0n,z5Z]
theorem q7m(b:Nat)(w:World)(n:Nat):But b w (w.drewN n):=⟨rfl,rfl,rfl,rfl,fun _ _=>rfl⟩
theorem q2U(s:St)(sl:Value)(b d v:Nat)(t n:Int)(w:World)(h:SAt w b (stC s sl))(hd:d<4)(hv:v<6)
  (h1:-4611686018427387904<=(s.V v).tok+t/\(s.V v).tok+t<=4611686018427387904) (h2:-4611686018427387904<=(s.V v).sh+n/\(s.V v).sh+n<=4611686018427387904) (h3:-4611686018427387904<=s.S d v+n/\s.S d v+n<=4611686018427387904) :
  Calls prog 108 #[.pointer (some ⟨b,0,none⟩),.int .i64 (d:Int),.int .i64 (v:Int),.int .i64 t,.int .i64 n] w fun e w'=>e=.returned (.tuple #[])/\SAt w' b (stC (q2N s d v t n) sl)/\But b w w':=by
 have hd':(d:Int)<4:=by omega
 have hv':(v:Int)<6:=by omega
 have hd0:(0:Int)<=(d:Int):=by omega
 have hv0:(0:Int)<=(v:Int):=by omega
 go_enter func108,ntmps108
 go_upto_region 0 with fail
 go_quiet (fail);have S0:SAt (w.drewN nq) b (stC s sl):=h;have HB0:Hid (But b w (w.drewN nq)):=q7m b w nq;generalize w.drewN nq=w0 at *;obtain ⟨c0,c1,c2,c3,c4⟩:=S0.val v hv;have f0:=S0.free (7+v * 5)
 go_upto_region 2 with fail
 have S1:=S0.set (7+v * 5) (.int .i64 ((s.V v).tok+t));rw[q8g s sl v hv]at S1;have HB1:Hid (But b w (w0.setCell ⟨b,7+v * 5,none⟩ (.int .i64 ((s.V v).tok+t)))):=HB0.out.set _ _;generalize w0.setCell ⟨b,7+v * 5,none⟩ (.int .i64 ((s.V v).tok+t))=w1 at *;clear c0 c1 c2 c3 c4 f0 S0 HB0 h;obtain ⟨c0,c1,c2,c3,c4⟩:=S1.val v hv;simp only[z5Z]at c1;have f0:=S1.free (7+v * 5+1)
 go_upto_region 3 with fail
 have S2:=S1.set (7+v * 5+1) (.int .i64 ((s.V v).sh+n));rw[j7Z _ sl v hv]at S2;have HB2:Hid (But b w (w1.setCell ⟨b,7+v * 5+1,none⟩ (.int .i64 ((s.V v).sh+n)))):=HB1.out.set _ _;generalize w1.setCell ⟨b,7+v * 5+1,none⟩ (.int .i64 ((s.V v).sh+n))=w2 at *;clear c0 c1 c2 c3 c4 f0 S1 HB1;have c0:=S2.shr d v hd hv;have f0:=S2.free (37+d * 6+v);have S3:=S2.set (37+d * 6+v) (.int .i64 (s.S d v+n));rw[j5f _ sl d v hd hv]at S3;have HS3:Hid (SAt (w2.setCell ⟨b,37+d * 6+v,none⟩ (.int .i64 (s.S d v+n))) b (stC (q2N s d v t n) sl)):=by rw[add_eq];exact S3
 clear S2 S3;go_wp2;go_end0;exact ⟨rfl,HS3.out,HB2.out.set _ _⟩
theorem z8b(a b c:Int)(w:World)(a1:a<=9223372036854775807)(b1:b<=9223372036854775807)(c1:c<=9223372036854775807) :
  Calls prog 148 #[.int .i64 a,.int .i64 b,.int .i64 c] w fun e w'=>e=.returned (.tuple #[.int .i64 (mdN a b c),.int .i64 (mdE a b c)])/\Below w.heap.size w w':=Ra.j2X a b c a1 b1 c1 w
theorem z4e(a b c:Int):0<=mdN a b c/\mdN a b c<=1125899906842624:=by
 unfold mdN
 split
 ·omega
 ·rename_i h;have h0:0<=a * b:=Int.mul_nonneg (by omega) (by omega)
  have h1:0<=a * b / c:=Int.ediv_nonneg h0 (by omega)
  split <;> omega
theorem j6C(x:Vd)(n:Int):shN x n=if x.sh=0 then n else if x.tok=0 then 0 else if mdE n x.sh x.tok=0/\inA (x.sh+mdN n x.sh x.tok)=true then mdN n x.sh x.tok else 0:=rfl
theorem j7P(x:Vd)(n:Int):shE x n=if x.sh=0 then 0 else if x.tok=0 then 8 else if mdE n x.sh x.tok=0/\inA (x.sh+mdN n x.sh x.tok)=true then if mdN n x.sh x.tok=0 then 8 else 0 else 6:=rfl
theorem j7J(x:Vd)(n:Int):woN x n=if mdE n x.tok x.sh=0 then mdN n x.tok x.sh else 0:=rfl
theorem j5W(x:Vd)(n:Int):woE x n=if mdE n x.tok x.sh=0 then if mdN n x.tok x.sh=0 then 8 else 0 else mdE n x.tok x.sh:=rfl
theorem z8R(b o:Nat)(x:Vd)(n:Int)(w:World)(hn:n<=1125899906842624)(hx:vOk x=true)(h0:w.cell? ⟨b,o,none⟩=some (.int .i64 x.tok))(h1:w.cell? ⟨b,o+1,none⟩=some (.int .i64 x.sh)) :
  Calls prog 106 #[.pointer (some ⟨b,o,none⟩),.int .i64 n] w fun e w'=>e=.returned (.tuple #[.int .i64 (shN x n),.int .i64 (shE x n)])/\Below w.heap.size w w':=by
 obtain ⟨k1,k2,k3⟩:=z2e hx;rw[z0z]at k1 k2 k3;have hM:=fun w=>z8b n x.sh x.tok w (by omega) (by omega) (by omega)
 have hI:=z4L (x.sh+mdN n x.sh x.tok);have HN:=hide (j6C x n);have HE:=hide (j7P x n);have hblt:b<w.heap.size:=World.block_lt_of_cell? w _ h0;clear hx;obtain ⟨xt,xs,xl,xj,xd⟩:=x;simp only at *;have hb:=z4e n xs xt;generalize shN ⟨xt,xs,xl,xj,xd⟩ n=rN at *;generalize shE ⟨xt,xs,xl,xj,xd⟩ n=rE at *;generalize mdN n xs xt=m at *;generalize mdE n xs xt=er at *;generalize inA (xs+m)=t at *
 go_enter func106,ntmps106
 go_upto_region 5 with fail
 all_goals first
  | (go_ret2;refine ⟨?_,Below.refl _ _⟩;have e1:=HN.out;have e2:=HE.out;simp_all;done)
  | skip
 go_region_held3 (fun wx=>wx.cell? ⟨b,o,none⟩=some (.int .i64 xt)/\wx.cell? ⟨b,o+1,none⟩=some (.int .i64 xs)) (first | go_keep | (refine ⟨?_,?_⟩ <;> (rw[hbM.cell hblt];simp[*])))
  (first | (go_at_call 148;refine (hM _).mono ?_;rintro e w1 ⟨rfl,hbM⟩))
 rename_i hh;obtain ⟨g0,g1⟩:=hh;have HB:Hid (Below w.heap.size w w1):=(Below.refl _ w).drew.trans hbM;clear hbM
 go_wp2_with (go_at_call 147;refine (hI _).mono ?_;rintro e w2 ⟨rfl,rfl⟩)
 all_goals (go_ret2;refine ⟨?_,HB.out⟩;have e1:=HN.out;have e2:=HE.out;clear HN HE hM hI;simp_all)
theorem q1R(b o:Nat)(x:Vd)(n:Int)(w:World)(hn:n<=1125899906842624)(hx:vOk x=true)(h0:w.cell? ⟨b,o,none⟩=some (.int .i64 x.tok))(h1:w.cell? ⟨b,o+1,none⟩=some (.int .i64 x.sh)) :
  Calls prog 109 #[.pointer (some ⟨b,o,none⟩),.int .i64 n] w fun e w'=>e=.returned (.tuple #[.int .i64 (woN x n),.int .i64 (woE x n)])/\Below w.heap.size w w':=by
 obtain ⟨k1,k2,k3⟩:=z2e hx;rw[z0z]at k1 k2 k3;have hM:=fun w=>z8b n x.tok x.sh w (by omega) (by omega) (by omega)
 have HN:=hide (j7J x n);have HE:=hide (j5W x n);have hblt:b<w.heap.size:=World.block_lt_of_cell? w _ h0;clear hx;obtain ⟨xt,xs,xl,xj,xd⟩:=x;simp only at *;generalize woN ⟨xt,xs,xl,xj,xd⟩ n=rN at *;generalize woE ⟨xt,xs,xl,xj,xd⟩ n=rE at *;generalize mdN n xt xs=m at *;generalize mdE n xt xs=er at *
 go_enter func109,ntmps109
 go_upto_region 1 with fail
 go_region_held3 (fun wx=>wx.cell? ⟨b,o,none⟩=some (.int .i64 xt)/\wx.cell? ⟨b,o+1,none⟩=some (.int .i64 xs)) (first | go_keep | (refine ⟨?_,?_⟩ <;> (rw[hbM.cell hblt];simp[*])))
  (first | (go_at_call 148;refine (hM _).mono ?_;rintro e w1 ⟨rfl,hbM⟩))
 rename_i hh;have HB:Hid (Below w.heap.size w w1):=(Below.refl _ w).drew.trans hbM;clear hbM hh;go_wp2
 all_goals (go_ret2;refine ⟨?_,HB.out⟩;have e1:=HN.out;have e2:=HE.out;clear HN HE hM;simp_all)
end
namespace Kc
open Go.RowKit Pv
structure Cs where
 on:Bool
 gone:Bool
 h:Int
 t:Int
 id:Int
 set:List (Int×Int)
 pd:List Pkt
 rp:List (Int×Int)
 fl:Nat->Bool
 out:Ln.Line
 h0:Int
 h1:Int
 h2:Int
 h3:Int
structure CsV where
 set:Value
 pd:Value
 rp:Value
 said:Value
 due:Value
def csC(c:Cs)(v:CsV):Array Value:=#[.bool c.on,.bool c.gone,.int .i64 c.h,.int .i64 c.t,.int .i64 c.id,v.set,v.pd,v.rp,.bool (c.fl 0),.bool (c.fl 1),.bool (c.fl 2),.bool (c.fl 3),.bool (c.fl 4),.bool (c.fl 5),v.said,v.due,.int .i64 c.out.g,.bool c.out.cl,.int .i64 c.h0,.int .i64 c.h1,.int .i64 c.h2,.int .i64 c.h3]
theorem z0m(c:Cs)(v:CsV):(csC c v).size=22:=rfl
def pkL(x:Pkt)(y:Value×Value):List Value:=[.int .i64 x.k,.int .i64 x.i,.int .i64 x.v,.int .i64 x.n,y.1,y.2]
def pdL:List Pkt->List (Value×Value)->List Value
 | x :: q,y :: z=>pkL x y ++ pdL q z
 | _,_=>[]
def z7w(P:Nat->Prop)(w:World)(v:Value)(q:List Pkt):Prop:=
 ∃ z:List (Value×Value),z.length=q.length/\Rep P w v 6 40 (pdL q z)/\∀ (i:Nat) (x:Pkt) (y:Value×Value),q[i]?=some x->z[i]?=some y->Rep P w y.1 2 16 (pwC x.S)/\Rep P w y.2 1 8 (inC x.D)
structure CIn(P:Nat->Prop)(w:World)(c:Cs)(v:CsV):Prop where
 set:Rep P w v.set 2 16 (pwC c.set)
 pd:z7w P w v.pd c.pd
 rp:Rep P w v.rp 2 8 (pwC c.rp)
 said:z0D P w v.said 1 16 (txC c.out.S)
 due:z0D P w v.due 1 8 (inC c.out.D)
theorem z2g:∀ (q:List Pkt) (z:List (Value×Value)),z.length=q.length->(pdL q z).length=q.length * 6
 | [],[],_=>rfl
 | x :: q,y :: z,h=>by
  have:=z2g q z (by simpa using h)
  show (pkL x y ++ pdL q z).length=_
  rw[List.length_append,this,List.length_cons]
  show 6+_=_
  omega
 | [],_ :: _,h=>by simp at h
 | _ :: _,[],h=>by simp at h
theorem q8P:∀ (q:List Pkt) (z:List (Value×Value)) (x:Pkt) (y:Value×Value),z.length=q.length->pdL (q ++ [x]) (z ++ [y])=pdL q z ++ pkL x y
 | [],[],x,y,_=>by simp[pdL]
 | a :: q,b :: z,x,y,h=>by
  show pkL a b ++ pdL (q ++ [x]) (z ++ [y])=(pkL a b ++ pdL q z) ++ _
  rw[q8P q z x y (by simpa using h),List.append_assoc]
 | [],_ :: _,_,_,h=>by simp at h
 | _ :: _,[],_,_,h=>by simp at h
theorem z6M:∀ (q:List Pkt) (z:List (Value×Value)) (i:Nat) (x:Pkt) (y:Value×Value) (j:Nat),q[i]?=some x->z[i]?=some y->j<6->(pdL q z)[i * 6+j]?=(pkL x y)[j]?
 | a :: q,b :: z,0,x,y,j,h1,h2,hj=>by
  simp at h1 h2
  subst h1 h2
  show (pkL a b ++ pdL q z)[0 * 6+j]?=_
  rw[Nat.zero_mul,Nat.zero_add,List.getElem?_append_left (by exact hj)]
 | a :: q,b :: z,i+1,x,y,j,h1,h2,hj=>by
  show (pkL a b ++ pdL q z)[(i+1) * 6+j]?=_
  rw[List.getElem?_append_right (by show 6<=_;omega)]
  rw[show (i+1) * 6+j - (pkL a b).length=i * 6+j by show (i+1) * 6+j - 6=_;omega]
  exact z6M q z i x y j (by simpa using h1) (by simpa using h2) hj
 | [],_,i,_,_,_,h1,_,_=>by simp at h1
 | _ :: _,[],i,_,_,_,_,h2,_=>by simp at h2
section
variable {P P':Nat->Prop} {w w':World}
theorem z7w.nil(P:Nat->Prop)(w:World):z7w P w (.slice none 0 0) []:=⟨[],rfl,Rep.nil _ _ _ _,fun i x y h=>by simp at h⟩
theorem z7w.mono{v:Value}{q:List Pkt}(h:z7w P w v q)(hp:∀ b,b<w.heap.size->P b->P' b):z7w P' w v q:=by
 obtain ⟨z,h1,h2,h3⟩:=h;exact ⟨z,h1,h2.mono hp,fun i x y hx hy=>⟨(h3 i x y hx hy).1.mono hp,(h3 i x y hx hy).2.mono hp⟩⟩
theorem z7w.keep{v:Value}{q:List Pkt}(h:z7w P w v q)(hk:∀ b,P b->b<w.heap.size->w'.heap[b]?=w.heap[b]?):z7w P w' v q:=by
 obtain ⟨z,h1,h2,h3⟩:=h;exact ⟨z,h1,h2.keep hk,fun i x y hx hy=>⟨(h3 i x y hx hy).1.keep hk,(h3 i x y hx hy).2.keep hk⟩⟩
theorem z7w.over{v:Value}{q:List Pkt}(h:z7w P w v q)(hb:Below w.heap.size w w'):z7w P w' v q:=h.keep fun b _ hlt=>hb.block b hlt
theorem CIn.mono{c:Cs}{v:CsV}(h:CIn P w c v)(hp:∀ b,b<w.heap.size->P b->P' b):CIn P' w c v:=⟨h.set.mono hp,h.pd.mono hp,h.rp.mono hp,h.said.mono hp,h.due.mono hp⟩
theorem CIn.keep{c:Cs}{v:CsV}(h:CIn P w c v)(hk:∀ b,P b->b<w.heap.size->w'.heap[b]?=w.heap[b]?):CIn P w' c v:=⟨h.set.keep hk,h.pd.keep hk,h.rp.keep hk,h.said.keep hk,h.due.keep hk⟩
theorem CIn.over{c:Cs}{v:CsV}(h:CIn P w c v)(hb:Below w.heap.size w w'):CIn P w' c v:=h.keep fun b _ hlt=>hb.block b hlt
theorem CIn.sets{c:Cs}{v:CsV}(h:CIn P w c v){g:Nat}(hg:¬ P g)(o:Nat)(vs:List Value):CIn P (w.setCells g o vs) c v:=h.keep fun b hb _=>z1a (show b≠g from fun e=>hg (by rw[← e];exact hb)) vs o w
theorem CIn.set1{c:Cs}{v:CsV}(h:CIn P w c v){g:Nat}(hg:¬ P g)(o:Nat)(x:Value):CIn P (w.setCell ⟨g,o,none⟩ x) c v:=h.keep fun b hb _=>Below.heap_setCell w ⟨g,o,none⟩ x b (show b≠g from fun e=>hg (by rw[← e];exact hb))
theorem CIn.z2D{c:Cs}{v:CsV}(h:CIn P w c v)(hb:Below w.heap.size w w')(k:Nat):CIn (New P w k) w' c v:=(h.mono (P':=fun b=>New P w k b/\b<w.heap.size) fun _ hl hp=>⟨.inl ⟨hp,hl⟩,hl⟩).over hb |>.mono fun _ _ h=>h.1
theorem _root_.Go.Proofs.YtmopekkhmhhcaaaGreat.Pv.Alt.cin{g:Nat}{w w':World}(h:Alt g w w'){P:Nat->Prop}(hP:¬ P g){c:Cs}{v:CsV}(hp:CIn P w c v):CIn P w' c v:=hp.keep fun b hb hlt=>h.block b hlt (fun e=>hP (e ▸ hb))
theorem z3e{v:Value}{sz bts:Nat}{cs:List Value}(h:Rep P w v sz bts cs):v.oneCell'=true:=by
 obtain ⟨A,n,C,rfl,_⟩:=h;rfl
theorem z7w.slice{v:Value}{q:List Pkt}(h:z7w P w v q):v.oneCell'=true:=by
 obtain ⟨z,_,h,_⟩:=h;exact z3e h
theorem z1W{c:Cs}{v:CsV}(h:CIn P w c v):(csC c v).all (·.oneCell')=true:=by
 have h1:=z3e h.set;have h2:=h.pd.slice;have h3:=z3e h.rp;have h4:=h.said.one;have h5:=h.due.one;simp only[csC,Array.all_eq_true_iff_forall_mem];intro x hx;simp only[List.mem_toArray,List.mem_cons,List.not_mem_nil,or_false]at hx
 rcases hx with rfl | rfl | rfl | rfl | rfl | rfl | rfl | rfl | rfl | rfl | rfl | rfl | rfl | rfl | rfl | rfl | rfl | rfl | rfl | rfl | rfl | rfl <;> first | rfl | assumption
end
theorem z3j:(prog.info? 63).map (·.size)=some 22:=by kernel_rfl
def Z22:Array Value:=#[.bool false,.bool false,.int .i64 0,.int .i64 0,.int .i64 0,.slice none 0 0,.slice none 0 0,.slice none 0 0,.bool false,.bool false,.bool false,.bool false,.bool false,.bool false,.slice none 0 0,.slice none 0 0,.int .i64 0,.bool false,.int .i64 0,.int .i64 0,.int .i64 0,.int .i64 0]
theorem z0u:Z22.size=22:=rfl
def z6v(v:Value):Sem Value:=Instr.loadAt 63 v
theorem z1O(v:Value):Instr.loadAt 63 v=z6v v:=rfl
def q2y(a v:Value):Sem Unit:=Instr.storeAt 63 a v
theorem z1w(a v:Value):Instr.storeAt 63 a v=q2y a v:=rfl
theorem z2O{w:World}{g:Nat}{cs:Array Value}(h:CAt 63 w g cs)(hs:cs.size=22):(z6v (.pointer (some ⟨g,0,none⟩))).run prog w=.ok (.agg cs) w:=by
 have:=run_loadAt_mid (P:=prog) w g 0 63 cs.toList _ h.range underlying63 rfl (by rw[z3j];simp[hs])
 change (Instr.loadAt 63 _).run prog w=_
 simpa using this
theorem z2a{w:World}{g:Nat}{zs cs:Array Value}(h:CAt 63 w g zs)(hz:zs.size=22)(hs:cs.size=22)(h1:cs.all (·.oneCell')=true):(q2y (.pointer (some ⟨g,0,none⟩)) (.agg cs)).run prog w=.ok () (w.setCells g 0 cs.toList):=
 run_storeAt_mid (P:=prog) w g 0 63 cs (h.there 0 _ (by rw[hz,hs];omega)) (by rw[z3j,hs]) h1
def j5N(P:Nat->Prop)(w:World)(r:Cs×Int)(e:Ending)(w':World):Prop:=∃ v',e=.returned (.tuple #[.agg (csC r.1 v'),.int .i64 r.2])/\CIn (New P w 2) w' r.1 v'/\Below w.heap.size w w'
theorem q1C{fn:Func}{p q:Tmp}(h:fn.results=#[.cell p 63,.tmp q])(tmps:Array Value)(w:World)(g:Nat)(cs:Array Value)(v:Value)
  (hp:tmps.getD p undef=.pointer (some ⟨g,0,none⟩)) (hq:tmps.getD q undef=v) (hg:CAt 63 w g cs) (hsz:cs.size=22) :
  (results fn tmps).run prog w=.ok (.tuple #[.agg cs,v]) w:=by
 have hp':tmps[p]?.getD undef=.pointer (some ⟨g,0,none⟩):=by simpa using hp
 have hq':tmps[q]?.getD undef=v:=by simpa using hq
 simp[results,h,hp',hq',asAddr,run_loadVar_row w g 63 63 cs (0,0) _ hg underlying63 rfl (by rw[z3j,hsz])]
theorem z5K{f:Func}{t q:Tmp}(hres:f.results=#[.cell t 63,.tmp q]){P:Nat->Prop}{w wq:World}{zs:Array Value}(R:CAt 63 wq (w.heap.size+1) zs)(hz:zs.size=22)(H:Below w.heap.size w wq)(c':Cs)(v':CsV)(er:Int)(r:Cs×Int)(hr:r=(c',er))(hp:CIn (New P w 2) wq c' v')(act:Act)
  (h8:act.tmps.getD t undef=.pointer (some ⟨w.heap.size+1,0,none⟩)) (h9:act.tmps.getD q undef=.int .i64 er) (hd:act.defers=[]) :
  bodyPost prog f (j5N P w r) Exit.ret act (wq.setCells (w.heap.size+1) 0 (csC c' v').toList):=by
 subst hr;have R3:=R.z0G (ds:=csC c' v') (by rw[hz];rfl)
 exact bodyPost_ret (v:=.tuple #[.agg (csC c' v'),.int .i64 er]) (q1C hres _ _ _ _ _ h8 h9 R3 rfl) hd ⟨v',rfl,hp.sets (z3C (by omega)) _ _,z0b (Nat.le_succ _) _ _ _ H⟩
def j5z(P:Nat->Prop)(w:World)(r:Cs)(k:Nat)(e:Ending)(w':World):Prop:=∃ v',e=.returned (.agg (csC r v'))/\CIn (New P w k) w' r v'/\Below w.heap.size w w'
theorem z4U{fn:Func}{p:Tmp}(h:fn.results=#[.cell p 63])(tmps:Array Value)(w:World)(g:Nat)(cs:Array Value)
  (hp:tmps.getD p undef=.pointer (some ⟨g,0,none⟩)) (hg:CAt 63 w g cs) (hsz:cs.size=22) :
  (results fn tmps).run prog w=.ok (.agg cs) w:=by
 have hp':tmps[p]?.getD undef=.pointer (some ⟨g,0,none⟩):=by simpa using hp
 simp[results,h,hp',asAddr,run_loadVar_row w g 63 63 cs (0,0) _ hg underlying63 rfl (by rw[z3j,hsz])]
theorem q1T{f:Func}{t:Tmp}(hres:f.results=#[.cell t 63]){P:Nat->Prop}{w wq:World}{zs:Array Value}{k g:Nat}(R:CAt 63 wq g zs)(hz:zs.size=22)(H:Below w.heap.size w wq)(hgw:w.heap.size<=g)(c':Cs)(v':CsV)(hg:¬ New P w k g)(hp:CIn (New P w k) wq c' v')(act:Act)
  (h8:act.tmps.getD t undef=.pointer (some ⟨g,0,none⟩)) (hd:act.defers=[]) :
  bodyPost prog f (j5z P w c' k) Exit.ret act (wq.setCells g 0 (csC c' v').toList):=by
 have R3:=R.z0G (ds:=csC c' v') (by rw[hz];rfl)
 exact bodyPost_ret (v:=.agg (csC c' v')) (z4U hres _ _ _ _ h8 R3 rfl) hd ⟨v',rfl,hp.sets hg _ _,z0b hgw _ _ _ H⟩
theorem j7q(c:Cs)(v:CsV)(x:Bool):(csC c v).setIfInBounds 0 (.bool x)=csC { c with on:=x } v:=rfl
theorem j0B(c:Cs)(v:CsV)(x:Bool):(csC c v).setIfInBounds 1 (.bool x)=csC { c with gone:=x } v:=rfl
theorem j3Q(c:Cs)(v:CsV)(x:Int):(csC c v).setIfInBounds 2 (.int .i64 x)=csC { c with h:=x } v:=rfl
theorem j4m(c:Cs)(v:CsV)(x:Int):(csC c v).setIfInBounds 3 (.int .i64 x)=csC { c with t:=x } v:=rfl
theorem j6g(c:Cs)(v:CsV)(x:Int):(csC c v).setIfInBounds 4 (.int .i64 x)=csC { c with id:=x } v:=rfl
theorem set_set(c:Cs)(v:CsV)(l:List (Int×Int))(x:Value):(csC c v).setIfInBounds 5 x=csC { c with set:=l } { v with set:=x }:=rfl
theorem j3h(c:Cs)(v:CsV)(l:List Pkt)(x:Value):(csC c v).setIfInBounds 6 x=csC { c with pd:=l } { v with pd:=x }:=rfl
theorem q8E(c:Cs)(v:CsV)(l:List (Int×Int))(x:Value):(csC c v).setIfInBounds 7 x=csC { c with rp:=l } { v with rp:=x }:=rfl
def j4R(f:Nat->Bool)(k:Nat)(x:Bool):Nat->Bool:=fun i=>if i=k then x else f i
theorem j2J(c:Cs)(v:CsV){k:Nat}(hk:k<6)(x:Bool):(csC c v).setIfInBounds (8+k) (.bool x)=csC { c with fl:=j4R c.fl k x } v:=by
 rcases (show k=0∨k=1∨k=2∨k=3∨k=4∨k=5 by omega) with rfl | rfl | rfl | rfl | rfl | rfl <;> rfl
theorem q6l(c:Cs)(v:CsV){k:Nat}(hk:k<6):(csC c v)[8+k]?=some (.bool (c.fl k)):=by
 rcases (show k=0∨k=1∨k=2∨k=3∨k=4∨k=5 by omega) with rfl | rfl | rfl | rfl | rfl | rfl <;> rfl
theorem j6e(c:Cs)(v:CsV)(x:Bool):(csC c v).setIfInBounds 17 (.bool x)=csC { c with out:={ c.out with cl:=x } } v:=rfl
end Kc
end Go.Proofs.YtmopekkhmhhcaaaGreat
